"""Point 1 for role, and which roles a role is under, as can shows it."""

import itertools
import random
import unittest

from rolehouse.house import answers
from tests.oracle import ExpectTest, LARGEST, begins, can, join, line, role, turned, under_pairs


class RoleTest(ExpectTest):
    def test_numbered_from_0(self):
        self.expect([role(0, 1), role(1, 2), role(3, 0), role(2, 3)], [0, 1, 2, 3])

    def test_every_pair_is_taken(self):
        for lower, upper in itertools.product(range(4), repeat=2):
            with self.subTest(lower=lower, upper=upper):
                self.expect([role(lower, upper), role(upper, lower)], [0, 1])

    def test_a_role_above_3(self):
        for wrong in (4, 5, 7, 255, LARGEST):
            with self.subTest(wrong=wrong):
                self.expect(
                    [role(wrong, 0), role(0, wrong), role(wrong, wrong), role(wrong, 3), role(3, wrong), role(3, 3)],
                    [-1, -1, -1, -1, -1, 0],
                )

    def test_a_fifth(self):
        four = [role(0, 0), role(1, 1), role(2, 2), role(3, 3)]
        self.expect(four + [role(0, 1), role(0, 0)], [0, 1, 2, 3, -7, -7])

    def test_wrong_form_goes_ahead_of_too_many(self):
        four = [role(0, 1)] * 4
        self.expect(four + [role(4, 0), role(0, 4), role(LARGEST, LARGEST), role(0, 0)], [0, 1, 2, 3, -1, -1, -1, -7])

    def test_under_itself_and_told_twice_count(self):
        self.expect([role(0, 0), role(0, 0), role(1, 2), role(1, 2), role(3, 1)], [0, 1, 2, 3, -7])

    def test_a_refused_one_is_not_told(self):
        meets = can(3, 6, 0, 2, 0, 7, 1, 5, 2, 0)
        self.expect([role(0, 4), role(4, 1), meets, role(0, 1), meets], [-1, -1, 1, 0, 0])
        self.expect([role(2, 2)] * 4 + [role(0, 1), meets], [0, 1, 2, 3, -7, 1])

    def test_begins_takes_it_back(self):
        meets = can(3, 6, 0, 2, 0, 7, 1, 5, 2, 0)
        self.expect([role(0, 1), meets, begins(), meets, role(3, 3), role(2, 2), meets], [0, 0, 0, 1, 0, 1, 1])
        self.expect([role(0, 1)] * 4 + [begins()] + [role(1, 0)] * 5, [0, 1, 2, 3, 0, 0, 1, 2, 3, -7])

    def test_lines_and_roles_are_counted_apart(self):
        self.expect([line([0], [0]), role(0, 1), line([0], [0]), role(0, 1), line([1], [0])], [0, 0, 1, 1, 2])


class UnderTest(unittest.TestCase):
    def check(self, told, pairs):
        """By r one comes to a thing with name 0, by s to none: impossible just if r is under s.
        It hasn't name 0, but all to which one comes back by s have: likewise, for s turned round."""
        told_calls = join(*[role(lower, upper) for lower, upper in told])
        for lower in range(4):
            calls = list(told_calls)
            for upper in range(4):
                calls += can(3, 6, lower, 2, 0, 7, upper, 5, 2, 0)
                calls += can(3, 5, 2, 0, 6, lower, 7, turned(upper), 2, 0)
                calls += can(3, 2, 0, 6, lower, 5, 6, turned(upper), 2, 0)
            given = answers(calls)[1::2][len(told):]
            expected = [0 if (lower, upper) in pairs else 1 for upper in range(4) for _ in range(3)]
            self.assertEqual(given, expected, (told, lower))

    def check_rows(self, told, rows):
        self.check(told, {(lower, upper) for lower, row in enumerate(rows) for upper in row})

    def test_nothing_told(self):
        self.check_rows([], [[0], [1], [2], [3]])

    def test_one_told(self):
        self.check_rows([(0, 0)], [[0], [1], [2], [3]])
        self.check_rows([(0, 1)], [[0, 1], [1], [2, 3], [3]])
        self.check_rows([(1, 0)], [[0], [1, 0], [2], [3, 2]])
        self.check_rows([(2, 3)], [[0, 1], [1], [2, 3], [3]])

    def test_one_told_under_one_turned_round(self):
        self.check_rows([(0, 3)], [[0, 3], [1], [2, 1], [3]])
        self.check_rows([(3, 0)], [[0], [1, 2], [2], [3, 0]])
        self.check_rows([(0, 2)], [[0, 2], [1], [0, 2], [3]])
        self.check_rows([(3, 1)], [[0], [1, 3], [2], [1, 3]])

    def test_several_steps(self):
        self.check_rows([(0, 1), (1, 3)], [[0, 1, 3], [1, 3], [1, 2, 3], [1, 3]])
        self.check_rows([(1, 3), (0, 1)], [[0, 1, 3], [1, 3], [1, 2, 3], [1, 3]])
        self.check_rows([(0, 1), (1, 2)], [[0, 1, 2, 3]] * 4)
        self.check_rows([(0, 1), (1, 0)], [[0, 1], [0, 1], [2, 3], [2, 3]])
        self.check_rows([(0, 3), (3, 0)], [[0, 3], [1, 2], [1, 2], [0, 3]])

    def test_every_one_told(self):
        for pair in itertools.product(range(4), repeat=2):
            self.check([pair], under_pairs([pair]))

    def test_many_told(self):
        rng = random.Random(11)
        for _ in range(60):
            told = [(rng.randrange(4), rng.randrange(4)) for _ in range(rng.randrange(2, 5))]
            self.check(told, under_pairs(told))


if __name__ == "__main__":
    unittest.main()
