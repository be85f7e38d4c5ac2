"""What roles answers."""

import itertools
import unittest

from tests.oracle import ExpectTest, begins, line, role, roles, under_pairs


def table(*rows):
    """For each role the roles it is under, as roles answers it."""
    return [4] + [1 if upper in row else 0 for row in rows for upper in range(4)]


ALONE = [4, 1, 0, 0, 0, 0, 1, 0, 0, 0, 0, 1, 0, 0, 0, 0, 1]


class RolesTest(ExpectTest):
    def check(self, told, expected):
        self.expect_behind([role(lower, upper) for lower, upper in told], [roles()], [expected])

    def test_nothing_told(self):
        self.expect([roles()], [ALONE])
        self.assertEqual(table([0], [1], [2], [3]), ALONE)

    def test_one_told(self):
        self.check([(0, 1)], [4, 1, 1, 0, 0, 0, 1, 0, 0, 0, 0, 1, 1, 0, 0, 0, 1])
        self.check([(1, 0)], [4, 1, 0, 0, 0, 1, 1, 0, 0, 0, 0, 1, 0, 0, 0, 1, 1])
        self.check([(3, 2)], [4, 1, 0, 0, 0, 1, 1, 0, 0, 0, 0, 1, 0, 0, 0, 1, 1])
        self.check([(2, 3)], [4, 1, 1, 0, 0, 0, 1, 0, 0, 0, 0, 1, 1, 0, 0, 0, 1])

    def test_under_itself_and_told_twice(self):
        for number in range(4):
            self.check([(number, number)], ALONE)
        self.check([(0, 1), (0, 1), (2, 3)], table([0, 1], [1], [2, 3], [3]))

    def test_under_one_turned_round(self):
        self.check([(0, 3)], table([0, 3], [1], [1, 2], [3]))
        self.check([(1, 2)], table([0], [1, 2], [2], [0, 3]))
        self.check([(0, 2)], table([0, 2], [1], [0, 2], [3]))
        self.check([(2, 0)], table([0, 2], [1], [0, 2], [3]))
        self.check([(3, 1)], table([0], [1, 3], [2], [1, 3]))

    def test_over_several_steps(self):
        self.check([(0, 1), (1, 3)], table([0, 1, 3], [1, 3], [1, 2, 3], [1, 3]))
        self.check([(1, 3), (0, 1)], table([0, 1, 3], [1, 3], [1, 2, 3], [1, 3]))
        self.check([(0, 3), (1, 1), (3, 1)], table([0, 1, 3], [1, 3], [1, 2, 3], [1, 3]))

    def test_in_a_ring(self):
        self.check([(0, 1), (1, 0)], table([0, 1], [0, 1], [2, 3], [2, 3]))
        self.check([(0, 3), (3, 0)], table([0, 3], [1, 2], [1, 2], [0, 3]))
        self.check([(0, 1), (1, 2)], table(*[range(4)] * 4))
        self.check([(0, 1), (1, 2), (2, 3), (3, 0)], table(*[range(4)] * 4))

    def test_all_that_can_be_told_in_two(self):
        for told in itertools.product(itertools.product(range(4), repeat=2), repeat=2):
            pairs = under_pairs(told)
            self.check(told, [4] + [1 if pair in pairs else 0 for pair in itertools.product(range(4), repeat=2)])

    def test_behind_begins(self):
        self.expect(
            [role(0, 1), roles(), begins(), roles(), role(1, 0), roles()],
            [0, table([0, 1], [1], [2, 3], [3]), 0, ALONE, 0, table([0], [0, 1], [2], [2, 3])],
        )

    def test_what_is_refused_is_not_told(self):
        self.expect([role(0, 4), role(4, 0), roles()], [-1, -1, ALONE])
        self.expect([role(1, 1)] * 4 + [role(0, 1), roles()], [0, 1, 2, 3, -7, ALONE])

    def test_asking_and_axioms_change_nothing(self):
        self.expect([roles(), roles(), line([0], [1]), roles(), role(0, 1), role(2, 2)], [ALONE, ALONE, 0, ALONE, 0, 1])


if __name__ == "__main__":
    unittest.main()
