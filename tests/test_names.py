"""What names answers."""

import itertools
import unittest

from rolehouse.house import answers
from tests.oracle import (
    A, B, C, D, ExpectTest, SIX_ATOMS, begins, both, can, each, either, join, line, names, no, role, some, under,
)


def table(*rows):
    """There's a model, and for each name the names it falls under."""
    return [1] + [1 if upper in row else 0 for row in rows for upper in range(4)]


ALONE = [1, 1, 0, 0, 0, 0, 1, 0, 0, 0, 0, 1, 0, 0, 0, 0, 1]
NO_MODEL = [0, 1, 1, 1, 1, 1, 1, 1, 1, 1, 1, 1, 1, 1, 1, 1, 1]
ALL = [0, 1, 2, 3]


class NamesTest(ExpectTest):
    def check(self, told, expected):
        """The table; and under, where it isn't too many atoms for it, says the same of each two names."""
        self.expect_behind(told, [names()], [expected])
        for lower, upper in itertools.product(range(4), repeat=2):
            number = answers(join(*told, under([2, lower], [2, upper])))[-1]
            self.assertIn(number, (-7, expected[1 + 4 * lower + upper]))

    def test_no_axioms(self):
        self.expect([names()], [ALONE])
        self.expect([role(0, 1), role(1, 2), names()], [0, 1, ALONE])
        self.assertEqual(table([0], [1], [2], [3]), ALONE)

    def test_names_under_one_another(self):
        self.check([line(A, B)], [1, 1, 1, 0, 0, 0, 1, 0, 0, 0, 0, 1, 0, 0, 0, 0, 1])
        self.check([line(D, A)], [1, 1, 0, 0, 0, 0, 1, 0, 0, 0, 0, 1, 0, 1, 0, 0, 1])
        self.check([line(A, B), line(B, C)], table([0, 1, 2], [1, 2], [2], [3]))
        self.check([line(A, B), line(B, A)], table([0, 1], [0, 1], [2], [3]))
        self.check([line(A, B), line(B, C), line(C, D), line(D, A)], table(ALL, ALL, ALL, ALL))
        self.check([line(A, both(B, D))], table([0, 1, 3], [1], [2], [3]))
        self.check([line(either(A, B), C)], table([0, 2], [1, 2], [2], [3]))
        self.check([line(no(A), no(C))], table([0], [1], [0, 2], [3]))
        self.check([line(A, either(B, C))], ALONE)
        self.check([line(A, either(B, C)), line(B, C)], table([0, 2], [1, 2], [2], [3]))

    def test_a_name_that_all_things_have(self):
        self.check([line([0], A)], table([0], [0, 1], [0, 2], [0, 3]))
        self.check([line([0], D)], table([0, 3], [1, 3], [2, 3], [3]))
        self.check([line([0], both(A, B))], table([0, 1], [0, 1], [0, 1, 2], [0, 1, 3]))
        self.check([line([0], A), line(A, B)], table([0, 1], [0, 1], [0, 1, 2], [0, 1, 3]))

    def test_a_name_that_none_has(self):
        self.check([line(A, [1])], table(ALL, [1], [2], [3]))
        self.check([line(C, [1])], table([0], [1], ALL, [3]))
        self.check([line(C, no(C)), line(B, C)], table([0], ALL, ALL, [3]))

    def test_one_that_all_have_and_one_that_none_has(self):
        self.check([line([0], A), line(B, [1])], table([0], ALL, [0, 2], [0, 3]))
        self.check([line([0], D), line(C, [1])], table([0, 3], [1, 3], ALL, [3]))
        self.check([line([0], no(B)), line(B, C), line(no(C), [1])], table([0, 2], ALL, [2], [2, 3]))

    def test_names_that_are_atoms_and_others(self):
        self.check([line(A, [0])], ALONE)
        self.check([line(B, [0]), line([1], D)], ALONE)
        self.check([line(some(0, [0]), some(1, [0]))], ALONE)
        self.check([line([0], some(0, A))], ALONE)
        self.check([line(both(A, B), C), line(D, D)], ALONE)

    def test_by_some_and_each_alone(self):
        self.check([line(A, some(0, C)), line(some(0, [0]), B)], table([0, 1], [1], [2], [3]))
        self.check([line(A, some(0, C)), line(some(1, [0]), B)], ALONE)
        self.check([line(A, some(0, B)), line(A, each(0, no(B)))], table(ALL, [1], [2], [3]))
        self.check([line(A, some(0, B)), line(A, each(1, no(B)))], ALONE)
        self.check([line(no(A), some(3, [0])), line([0], each(3, [1]))], table([0], [0, 1], [0, 2], [0, 3]))
        self.check([line(A, each(2, B)), line([0], some(2, [1]))], NO_MODEL)
        self.check([line(A, some(0, B)), line(B, [1])], table(ALL, ALL, [2], [3]))
        self.check([line(no(each(1, B)), A), line([0], some(1, no(B)))], table([0], [0, 1], [0, 2], [0, 3]))

    def test_by_the_way_back(self):
        self.check([line(A, some(0, each(2, B)))], table([0, 1], [1], [2], [3]))
        self.check([line(A, some(0, each(0, B)))], ALONE)
        self.check([line(A, some(3, C)), line(C, each(1, B))], table([0, 1], [1], [2], [3]))
        self.check([line(A, some(3, C)), line(C, each(3, B))], ALONE)

    def test_by_roles_told(self):
        axioms = [line(A, some(0, [0])), line(some(1, [0]), B)]
        self.check(axioms, ALONE)
        self.check(axioms + [role(0, 1)], table([0, 1], [1], [2], [3]))
        self.check([role(2, 3)] + axioms, table([0, 1], [1], [2], [3]))
        self.check([role(1, 0)] + axioms, ALONE)
        self.check(axioms + [role(0, 3), role(3, 1)], table([0, 1], [1], [2], [3]))
        back = [line(A, some(0, each(3, B)))]
        self.check(back + [role(0, 1)], table([0, 1], [1], [2], [3]))
        self.check(back + [role(1, 0)], ALONE)
        self.check(back + [role(0, 3)], ALONE)
        self.check([line(A, some(0, each(0, B))), role(0, 2)], table([0, 1], [1], [2], [3]))

    def test_no_model(self):
        self.check([line([0], [1])], NO_MODEL)
        self.check([line([0], A), line(A, [1])], NO_MODEL)
        self.check([line([0], no(D)), line([0], some(2, D))], NO_MODEL)
        self.check([line([0], some(0, A)), line([0], each(0, no(A)))], NO_MODEL)
        self.check([line([0], some(0, A)), line([0], each(1, no(A)))], ALONE)
        self.check([line([0], some(0, A)), line([0], each(1, no(A))), role(0, 1)], NO_MODEL)

    def test_behind_begins_and_refusals(self):
        self.expect([line([0], [1]), names(), begins(), names()], [0, NO_MODEL, 0, ALONE])
        self.expect([line([0]), line(SIX_ATOMS, [1]), line([0], [8]), names()], [-1, -7, -1, ALONE])

    def test_asking_tells_nothing(self):
        five = line(both(A, B, C), both(D, some(0, [0])))
        self.expect([names(), names(), line(some(0, some(1, some(2, some(3, A)))), [0]), names()], [ALONE, ALONE, 0, ALONE])
        self.expect([five, names(), can(*A), names()], [0, ALONE, 1, ALONE])


if __name__ == "__main__":
    unittest.main()
