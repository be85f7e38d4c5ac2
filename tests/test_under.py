"""Point 2 for under."""

import unittest

from tests.oracle import (
    A, B, C, D, ExpectTest, NOT_TWO, SIX_ATOMS, begins, both, can, each, either, line, no, role, some, turned, under,
)


class UnderTest(ExpectTest):
    def check(self, told, *triples):
        asked = [under(first, second) for first, second, number in triples]
        self.expect_behind(told, asked, [number for first, second, number in triples])


class NothingToldTest(UnderTest):
    def test_everything_nothing_names(self):
        self.check([], ([0], [0], 1), ([0], [1], 0), ([1], [0], 1), ([1], [1], 1), (A, [0], 1), ([1], A, 1), ([0], A, 0), (A, [1], 0))
        names = (A, B, C, D)
        for first in names:
            self.check([], *[(first, second, 1 if first == second else 0) for second in names])

    def test_both_either_not(self):
        self.check(
            [], (both(A, B), A, 1), (both(A, B), B, 1), (A, both(A, B), 0), (A, either(A, B), 1), (B, either(A, B), 1), (either(A, B), A, 0),
            (both(A, B), either(A, B), 1), (either(A, B), both(A, B), 0), (A, no(A), 0), (no(A), A, 0), (A, no(no(A)), 1),
        )
        self.check(
            [], (both(A, no(A)), B, 1), ([0], either(A, no(A)), 1), (no(both(A, B)), either(no(A), no(B)), 1),
            (no(either(A, B)), no(A), 1), (both(A, either(no(A), B)), B, 1), (no(A), no(both(A, B)), 1), (no(both(A, B)), no(A), 0),
        )

    def test_some_and_each(self):
        for number in range(4):
            with self.subTest(number=number):
                self.check(
                    [], (some(number, both(A, B)), some(number, A), 1), (some(number, A), some(number, both(A, B)), 0),
                    (each(number, A), each(number, either(A, B)), 1), (each(number, A), some(number, A), 0), ([0], each(number, [0]), 1),
                    ([0], some(number, [0]), 0), (some(number, [1]), [1], 1), (each(number, [1]), each(number, A), 1),
                    (both(each(number, A), some(number, [0])), some(number, A), 1), (some(number, A), each(number, A), 0),
                    (no(some(number, A)), each(number, no(A)), 1), (each(number, no(A)), no(some(number, A)), 1),
                )

    def test_roles_apart(self):
        for number in range(4):
            for other in range(4):
                with self.subTest(number=number, other=other):
                    same = 1 if number == other else 0
                    back = 1 if turned(number) == other else 0
                    self.check(
                        [], (some(number, A), some(other, A), same), (each(number, A), each(other, A), same),
                        (both(some(number, A), each(other, B)), some(number, both(A, B)), same),
                        (A, each(number, some(other, A)), back), (some(number, each(other, A)), A, back),
                        (A, some(number, some(other, A)), 0), (each(number, each(other, A)), A, 0),
                    )

    def test_the_first_paragraph(self):
        only_such_children = each(0, each(2, A))
        self.check(
            [], (both(only_such_children, some(0, [0])), A, 1), (only_such_children, A, 0), (some(0, [0]), A, 0),
            (A, only_such_children, 0), (both(each(0, each(0, A)), some(0, [0])), A, 0), (both(only_such_children, some(2, [0])), A, 0),
        )
        # By role 1 one comes to somebody's mother, by 2 to their parents, by 0 to their children.
        self.check(
            [role(1, 2)], (some(1, A), some(2, A), 1), (some(2, A), some(1, A), 0), (A, each(1, some(0, A)), 1),
            (A, each(0, some(3, A)), 0), (both(only_such_children, some(3, [0])), A, 1), (A, each(3, some(2, A)), 1),
        )


class AxiomsTest(UnderTest):
    def test_an_axiom_may_be_asked_back(self):
        for first, second in (
            (A, B), ([0], A), (A, [1]), (some(0, A), each(2, B)), (both(A, B), some(3, each(1, A))), ([0], [1]), ([1], [0]),
            (either(A, no(B)), no(each(1, C))),
        ):
            with self.subTest(first=first, second=second):
                self.check([line(first, second)], (first, second, 1), (no(second), no(first), 1), (both(first, no(second)), [1], 1))

    def test_names(self):
        self.check([line(A, B)], (A, B, 1), (B, A, 0), (both(A, C), B, 1), (A, C, 0), (no(B), no(A), 1), (no(A), no(B), 0))
        self.check([line(A, B), line(B, C)], (A, C, 1), (C, A, 0), (A, both(B, C), 1), (either(A, B), C, 1))
        self.check([line([0], A)], (B, A, 1), ([0], A, 1), (A, B, 0), (no(A), B, 1))
        self.check([line(A, [1])], (A, B, 1), (A, [1], 1), (B, A, 0), (B, no(A), 1))

    def test_axioms_hold_of_the_things_one_comes_to(self):
        self.check(
            [line(A, B)], (some(0, A), some(0, B), 1), (each(2, A), each(2, B), 1), (some(1, B), some(1, A), 0),
            (some(0, A), some(0, either(B, C)), 1), (each(0, B), each(0, A), 0),
        )
        self.check([line([0], A)], ([0], each(3, A), 1), ([0], some(3, A), 0), (some(1, [0]), some(1, A), 1))
        self.check([line(A, some(0, A))], (A, some(0, some(0, A)), 1), (A, each(0, A), 0), (some(0, A), A, 0))

    def test_by_the_way_back(self):
        self.check([line(A, each(0, B))], (some(2, A), B, 1), (B, some(2, A), 0), (some(0, A), B, 0))
        self.check([line(some(2, A), B)], (A, each(0, B), 1), (A, each(2, B), 0))
        self.check([line(A, some(1, each(3, B)))], (A, B, 1), (B, A, 0))
        self.check([line(A, some(1, each(1, B)))], (A, B, 0))

    def test_a_name_in_no_axiom(self):
        self.check([line(A, B)], (C, D, 0), (D, C, 0), (C, A, 0), (A, C, 0), (C, C, 1), (both(A, C), both(B, C), 1), (C, either(D, C), 1))
        self.check([line([0], A), line(B, [1])], (C, A, 1), (B, C, 1), (A, C, 0), (C, B, 0), (C, D, 0))

    def test_axioms_that_no_model_keeps(self):
        for axioms in (
            [line([0], [1])], [line([0], A), line(A, [1])], [line([0], some(0, A)), line(A, [1])],
            [line([0], both(some(0, A), no(A))), line([0], each(2, no(A)))], [line([0], some(1, A)), line([0], each(1, no(A)))],
        ):
            with self.subTest(axioms=axioms):
                self.check(axioms, ([0], [1], 1), ([0], [0], 1), ([1], [0], 1), (A, no(A), 1), (no(A), A, 1), (B, A, 1), (A, B, 1), (B, C, 1))

    def test_what_is_told_later_counts_from_then_on(self):
        asked = under(some(0, A), some(1, B))
        self.expect([asked, line(A, B), asked, role(0, 1), asked, begins(), asked], [0, 0, 0, 0, 1, 0, 0])


class RolesToldTest(UnderTest):
    def test_a_role_under_another(self):
        self.check(
            [role(0, 1)], (some(0, A), some(1, A), 1), (some(1, A), some(0, A), 0), (each(1, A), each(0, A), 1), (each(0, A), each(1, A), 0),
            (some(2, A), some(3, A), 1), (some(3, A), some(2, A), 0), (each(3, A), each(2, A), 1), (some(0, A), some(3, A), 0),
            (A, each(0, some(3, A)), 1), (A, each(1, some(2, A)), 0),
        )

    def test_a_role_under_one_turned_round(self):
        self.check(
            [role(0, 3)], (some(0, A), some(3, A), 1), (some(2, A), some(1, A), 1), (some(0, A), some(1, A), 0), (some(3, A), some(0, A), 0),
            (A, each(0, some(1, A)), 1), (A, each(0, some(3, A)), 0),
        )
        self.check([role(0, 2)], (some(0, A), some(2, A), 1), (some(2, A), some(0, A), 1), (A, each(0, some(0, A)), 1), (A, each(1, some(1, A)), 0))

    def test_over_several_steps(self):
        self.check([role(0, 1), role(1, 2)], *[(some(first, A), some(second, A), 1) for first in range(4) for second in range(4)][:8])
        self.check([role(0, 1), role(1, 3)], (each(3, A), each(0, A), 1), (each(0, A), each(3, A), 0), (some(2, A), some(1, A), 1))

    def test_with_axioms(self):
        self.check([role(0, 1), line(A, each(1, B))], (both(A, some(0, [0])), some(0, B), 1), (A, each(0, B), 1), (some(2, A), B, 1))
        self.check([role(1, 0), line(A, each(1, B))], (A, each(0, B), 0), (some(2, A), B, 0), (some(3, A), B, 1))


class RefusalTest(UnderTest):
    def test_what_is_not_just_two_concepts(self):
        for row in NOT_TWO:
            with self.subTest(row=row):
                self.expect([under(row), under([0], [0]), line([0], [0]), under([0], [1])], [-1, 1, 0, 0])

    def test_just_5_atoms_are_answered(self):
        self.check(
            [], (both(A, B, C), both(D, some(0, [0])), 0), (some(0, some(1, some(2, A))), both(A, B), 0),
            (both(A, B, C, D, some(0, [0])), both(A, B, C, D, some(0, [0])), 1), ([0], both(A, B, C, D, each(3, [0])), 0),
            (both(A, B, C, D, each(3, [1])), [0], 1), (both(some(0, A), each(0, B)), both(some(0, B), either(A, B)), 0),
        )
        self.check([line(A, B), line(C, some(0, D))], (both(A, C), both(B, some(0, D)), 1), (some(0, D), C, 0), (both(A, D), D, 1))

    def test_more_than_5_atoms(self):
        self.check([], (SIX_ATOMS, [0], -7), ([0], SIX_ATOMS, -7), ([1], SIX_ATOMS, -7), (SIX_ATOMS, SIX_ATOMS, -7))
        self.check(
            [], (both(A, B, C), both(D, some(0, [0]), some(1, [0])), -7), (some(0, some(1, some(2, A))), both(B, C), -7),
            ([6, 0] * 7, [0], -1), ([6, 0] * 6 + [0], A, -7), (both(some(0, A), each(0, B)), both(some(0, B), either(A, C)), -7),
        )
        self.check(
            [line(A, B), line(C, some(0, D))], (A, some(1, [0]), -7), (some(0, A), B, -7), (each(0, D), [0], -7), ([1], each(0, D), -7), (A, B, 1),
        )

    def test_wrong_form_goes_ahead_of_too_many_atoms(self):
        self.expect(
            [under(SIX_ATOMS), under(SIX_ATOMS, [0], [0]), under(SIX_ATOMS, [2, 4]), under(SIX_ATOMS, [2]), under([8], SIX_ATOMS), under(SIX_ATOMS, [0])],
            [-1, -1, -1, -1, -1, -7],
        )

    def test_asking_tells_nothing(self):
        self.expect(
            [under(A, B), under(A), under(SIX_ATOMS, [1]), under(A, B), can(*both(A, no(B))), line(both(A, B), both(C, D)), under([0], some(0, [0]))],
            [0, -1, -7, 0, 1, 0, 0],
        )
        self.expect([under(both(A, B, C), some(0, D)), line([0], some(1, some(2, some(3, both(A, B)))))], [0, 0])


if __name__ == "__main__":
    unittest.main()
