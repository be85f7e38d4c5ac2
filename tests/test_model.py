"""Point 2 for model, and the told model."""

import unittest

from rolehouse.house import answers
from tests.oracle import (
    A, B, C, D, ExpectTest, NOT_ONE, SIX_ATOMS, begins, both, can, each, either, join, line, model, names, no,
    role, roles, some,
)


def told(*things):
    """The numbers that model answers: for each thing its names, then its ways as pairs of role and thing."""
    numbers = [len(things)]
    for total, *ways in things:
        numbers += [total, len(ways)]
        for number, target in ways:
            numbers += [number, target]
    return numbers


class ModelTest(ExpectTest):
    def check(self, said, *pairs):
        self.expect_behind(said, [model(concept) for concept, things in pairs], [things for concept, things in pairs])


class OneThingTest(ModelTest):
    def test_the_form(self):
        self.assertEqual(answers(model([0])), [3, 1, 0, 0])
        self.assertEqual(answers(model(D)), [3, 1, 8, 0])
        self.assertEqual(answers(join(line([0], some(0, [0])), model([0]))), [1, 0, 5, 1, 0, 1, 0, 0])
        self.assertEqual(answers(join(model(some(0, [0])), model(A))), [7, 2, 0, 1, 0, 1, 0, 0, 3, 1, 1, 0])

    def test_names(self):
        self.check([], (A, told([1])), (B, told([2])), (C, told([4])), (D, told([8])), (no(A), told([0])), ([0], told([0])))
        self.check([], (both(A, D), told([9])), (both(D, A), told([9])), (both(A, B, C, D), told([15])), (both(A, no(B)), told([1])))

    def test_the_lowest_kind(self):
        self.check(
            [], (either(A, B), told([1])), (either(B, A), told([2])), (either(both(A, B), C), told([3])), (either(C, both(A, B)), told([4])),
            (either(D, no(D)), told([0])), (no(both(A, B)), told([0])), (either(both(A, no(B)), B), told([1])),
            (both(either(A, B), either(no(A), C)), told([2])), (both(either(A, B), no(A)), told([2])),
        )

    def test_each_needs_no_thing(self):
        self.check([], (each(0, A), told([0])), (each(2, [1]), told([0])), (both(each(1, A), B), told([2])), (no(some(3, [0])), told([0])))

    def test_names_that_are_no_atoms_are_not_had(self):
        self.check([line(B, [0])], (A, told([1])), (C, told([4])), ([0], told([0])), (no(D), told([0])))
        self.check([line([0], B)], (A, told([3])), ([0], told([2])), (D, told([10])))

    def test_atoms_of_the_axioms_come_first(self):
        self.check([line(B, [0])], (either(A, B), told([2])))
        self.check([line([1], both(C, A))], (either(A, either(B, C)), told([4])), (either(A, B), told([1])))
        self.check([line(D, C), line([0], either(A, D))], (either(B, D), told([12])), (either(no(B), A), told([12])), (B, told([14])))

    def test_axioms_keep_kinds_away(self):
        self.check([line(A, B)], (A, told([3])), (either(A, C), told([3])), (either(C, A), told([3])), (either(A, B), told([2])), (no(B), told([0])))
        self.check([line([0], either(A, B)), line(A, C)], ([0], told([2])), (A, told([5])), (no(B), told([5])))


class StepsTest(ModelTest):
    def test_a_step_by_each_role(self):
        self.check(
            [], (some(0, [0]), told([0, (0, 1)], [0])), (some(1, [0]), told([0, (1, 1)], [0])),
            (some(2, [0]), told([0], [0, (0, 0)])), (some(3, [0]), told([0], [0, (1, 0)])),
        )

    def test_to_a_thing_that_has_it(self):
        self.check(
            [], (some(0, A), told([0, (0, 1)], [1])), (some(3, both(B, C)), told([0], [6, (1, 0)])),
            (both(A, some(1, no(A))), told([1, (1, 1)], [0])), (some(0, some(1, D)), told([0, (0, 1)], [0, (1, 2)], [8])),
        )

    def test_an_each_that_does_not_hold(self):
        self.check(
            [], (no(each(0, A)), told([0, (0, 0)])), (both(A, no(each(0, A))), told([1, (0, 1)], [0, (0, 1)])),
            (no(each(1, no(A))), told([0, (1, 1)], [1, (1, 1)])), (no(each(2, [1])), told([0, (0, 0)])),
        )

    def test_a_thing_that_comes_to_itself(self):
        self.check([line([0], some(0, [0]))], ([0], told([0, (0, 0)])), (A, told([1, (0, 1)], [0, (0, 1)])))
        self.check([line([0], some(3, [0]))], ([0], told([0, (1, 0)])))
        self.check([line(A, some(1, A))], (A, told([1, (1, 0)])), (no(A), told([0])))
        self.check([line(A, some(2, B)), line(B, some(2, A))], (A, told([1, (0, 1)], [2, (0, 0)])))
        self.check([line([0], both(some(0, A), some(1, A)))], (A, told([1, (0, 0), (1, 0)])))

    def test_two_steps_to_one_kind_lead_to_one_thing(self):
        self.check([line([0], A)], (both(some(0, A), some(0, [0])), told([1, (0, 1)], [1])))
        self.check([], (both(some(0, A), some(1, A)), told([0, (0, 1), (1, 1)], [1])))
        self.check([], (both(some(0, A), some(2, A)), told([0, (0, 1)], [1, (0, 0)])))
        self.check([], (some(0, both(A, some(2, both(B, no(A))))), told([0, (0, 1)], [1], [2, (0, 1)])))

    def test_one_step_each(self):
        self.check([], (both(some(0, A), some(0, B)), told([0, (0, 1), (0, 2)], [1], [2])))
        self.check([], (both(some(0, B), some(0, A)), told([0, (0, 1), (0, 2)], [2], [1])))
        self.check([], (both(some(0, A), some(0, no(A))), told([0, (0, 1), (0, 2)], [1], [0])))

    def test_the_lower_role_first_then_the_lower_thing(self):
        self.check([], (both(some(1, A), some(0, no(A))), told([0, (0, 2), (1, 1)], [1], [0])))
        self.check([], (both(some(1, A), some(0, B)), told([0, (0, 2), (1, 1)], [1], [2])))
        self.check([line([0], some(0, no(A)))], (both(A, some(0, A)), told([1, (0, 1), (0, 2)], [0, (0, 1)], [1, (0, 1)])))
        # Thing 1 comes to thing 0 by the way back of the first step, and to thing 2 by its own.
        self.check([line(A, some(0, A))], (some(2, A), told([0], [1, (0, 0), (0, 2)], [1, (0, 2)])))

    def test_things_in_the_order_in_which_they_come(self):
        self.check(
            [], (both(some(0, some(1, [0])), some(2, A)), told([0, (0, 1)], [0, (1, 3)], [1, (0, 0)], [0])),
            (both(some(2, A), some(0, some(1, [0]))), told([0, (0, 2)], [1, (0, 0)], [0, (1, 3)], [0])),
        )
        self.check([], (some(0, some(0, some(0, A))), told([0, (0, 1)], [0, (0, 2)], [0, (0, 3)], [1])))

    def test_atom_by_atom_from_the_axioms_on(self):
        self.check([line(A, some(1, B))], (both(A, some(0, C)), told([1, (0, 2), (1, 1)], [2], [4])))
        self.check([line(A, some(1, B)), line(B, some(0, A))], (A, told([1, (1, 1)], [2, (0, 0)])))

    def test_the_lowest_kind_that_bears_a_step_out(self):
        # All to which one comes by 0 have name 1, so the lowest with name 0 that fits has both.
        self.check([], (both(some(0, A), each(0, B)), told([0, (0, 1)], [3, (0, 2)], [0, (0, 2)])))
        self.check([], (both(some(0, either(A, B)), no(some(0, A))), told([0, (0, 1)], [2])))
        # From the second thing one comes back by 2 to the first, which so has name 0.
        self.check([], (some(0, each(2, A)), told([1, (0, 1)], [0], [0, (0, 0), (0, 2)])))
        self.check([line([0], each(2, A))], (some(0, [0]), told([1, (0, 1)], [0])), (no(A), told([0])))
        self.check([line(A, [1])], (some(0, no(A)), told([0, (0, 1)], [0])), (some(0, A), -6))

    def test_a_kind_that_nothing_bears_out_is_left_out(self):
        # With name 0 one comes by 0 to name 1, which none has: so what's lower with name 0 is not there.
        self.check([line(A, some(0, B)), line(B, [1])], (either(A, C), told([4])), (A, -6))
        self.check([line(A, some(0, B)), line(B, each(2, no(A)))], (either(A, C), told([4])), (A, -6))


class RolesToldTest(ModelTest):
    def test_by_each_role_that_the_steps_role_is_under(self):
        self.check(
            [role(0, 1)], (some(0, A), told([0, (0, 1), (1, 1)], [1])), (some(1, A), told([0, (1, 1)], [1])),
            (some(2, A), told([0], [1, (0, 0), (1, 0)])), (some(3, A), told([0], [1, (1, 0)])),
        )

    def test_under_a_role_turned_round(self):
        self.check(
            [role(0, 3)], (some(0, A), told([0, (0, 1)], [1, (1, 0)])), (some(1, A), told([0, (1, 1)], [1])),
            (some(2, A), told([0, (1, 1)], [1, (0, 0)])), (some(3, A), told([0], [1, (1, 0)])),
        )
        self.check(
            [role(0, 2)], (some(0, A), told([0, (0, 1)], [1, (0, 0)])), (some(2, A), told([0, (0, 1)], [1, (0, 0)])),
            (some(0, [0]), told([0, (0, 0)])), (some(1, A), told([0, (1, 1)], [1])),
        )

    def test_over_several_steps(self):
        self.check([role(0, 1), role(1, 3)], (some(0, A), told([0, (0, 1), (1, 1)], [1, (1, 0)])), (some(1, A), told([0, (1, 1)], [1, (1, 0)])))
        self.check([role(0, 1), role(1, 2)], (some(0, A), told([0, (0, 1), (1, 1)], [1, (0, 0), (1, 0)])))

    def test_a_way_that_several_steps_give_is_told_once(self):
        self.check([role(0, 1)], (both(some(0, A), some(1, A)), told([0, (0, 1), (1, 1)], [1])))
        self.check([role(0, 2)], (some(0, both(A, some(0, no(A)))), told([0, (0, 1)], [1, (0, 0)])))
        self.check([role(1, 0), line([0], A)], (both(some(0, A), some(1, [0]), some(0, [0])), told([1, (0, 1), (1, 1)], [1])))

    def test_what_the_upper_role_asks(self):
        self.check([role(0, 1)], (both(some(0, A), each(1, B)), told([0, (0, 1), (1, 1)], [3, (1, 2)], [0, (1, 2)])))
        self.check([role(1, 0)], (both(some(0, A), each(1, B)), told([0, (0, 1)], [1, (0, 2), (1, 2)], [0, (0, 2), (1, 2)])))
        self.check([role(0, 1)], (some(0, each(3, A)), told([1, (0, 1), (1, 1)], [0], [0, (1, 0), (1, 2)])))


class RefusalTest(ModelTest):
    def test_what_is_not_just_a_concept(self):
        for row in NOT_ONE:
            with self.subTest(row=row):
                self.expect([model(row), model(A), line([0], [0])], [-1, told([1]), 0])

    def test_just_5_atoms_are_answered(self):
        self.check(
            [], (both(A, B, C, D, some(0, [0])), told([15, (0, 1)], [0])), (both(A, B, C, D, each(3, [0])), told([15])),
            (some(0, some(0, some(0, some(0, A)))), told([0, (0, 1)], [0, (0, 2)], [0, (0, 3)], [0, (0, 4)], [1])),
        )
        self.check([line(A, B), line(C, some(0, D))], (both(A, C), told([7, (0, 1)], [8])))

    def test_more_than_5_atoms(self):
        self.check([], (SIX_ATOMS, -7), (both(A, SIX_ATOMS), -7), ([6, 0] * 6 + [0], -7), ([7, 1] * 5 + A, -7), ([6, 0] * 14 + A, -7))
        self.check([line(A, B), line(C, some(0, D))], (some(1, D), -7), (each(0, D), -7), (some(0, A), -7), (D, told([8])))

    def test_no_such_model(self):
        self.check(
            [], ([1], -6), (both(A, no(A)), -6), (some(0, [1]), -6), (no(each(3, [0])), -6), (both(some(1, A), each(1, no(A))), -6),
            (both(no(A), some(0, each(2, A))), -6),
        )
        self.check([line(A, [1])], (A, -6), (some(2, A), -6), (no(A), told([0])), ([0], told([0])))
        self.check([role(0, 1)], (both(some(0, A), each(1, no(A))), -6), (both(some(1, A), each(0, no(A))), told([0, (1, 1)], [1, (0, 1), (1, 1)])))

    def test_axioms_that_no_model_keeps(self):
        for axioms in ([line([0], [1])], [line([0], A), line(A, [1])], [line([0], some(0, A)), line([0], each(0, no(A)))]):
            with self.subTest(axioms=axioms):
                self.check(axioms, ([0], -6), (A, -6), (no(A), -6), ([1], -6), (B, -6))

    def test_the_refusal_told_first(self):
        self.check([], (both([1], SIX_ATOMS), -7), ([3, 1] + SIX_ATOMS + [0], -1), ([3, 1] + SIX_ATOMS[:-1], -1), ([1, 1], -1), ([3, 1], -1))
        self.check([line([0], [1])], (SIX_ATOMS, -7), ([], -1), ([8], -1), ([6, 4, 1], -1), (SIX_ATOMS + [0], -1), ([0], -6))

    def test_all_is_as_it_was(self):
        before = [line(A, B), role(0, 1)]
        asked = [names(), roles(), model(some(0, A)), can(*both(A, no(B)))]
        first = answers(join(*before, *asked))
        for refused in (model([]), model([2, 4]), model(SIX_ATOMS), model([1]), model(both(A, no(B))), model(some(1, C))):
            with self.subTest(refused=refused):
                count = answers(join(*before, refused))[4] + 1
                again = answers(join(*before, refused, *asked, line(C, D), role(1, 2)))
                self.assertEqual(again[:4] + again[4 + count:], first + [1, 1, 1, 1])

    def test_what_is_told_later_counts_from_then_on(self):
        asked = model(some(0, A))
        self.expect(
            [asked, line(A, B), asked, role(0, 1), asked, begins(), asked],
            [told([0, (0, 1)], [1]), 0, told([0, (0, 1)], [3]), 0, told([0, (0, 1), (1, 1)], [3]), 0, told([0, (0, 1)], [1])],
        )

    def test_asking_tells_nothing(self):
        self.expect(
            [model(both(A, B, C, D)), model(A), line(some(0, some(1, some(2, some(3, A)))), [0]), model(no(A)), model(B)],
            [told([15]), told([1]), 0, told([0]), -7],
        )


if __name__ == "__main__":
    unittest.main()
