"""Point 2 for can."""

import unittest

from tests.oracle import A, B, C, D, ExpectTest, NOT_ONE, SIX_ATOMS, begins, both, can, each, either, line, no, role, some


class CanTest(ExpectTest):
    def check(self, told, *pairs):
        self.expect_behind(told, [can(*concept) for concept, number in pairs], [number for concept, number in pairs])


class NothingToldTest(CanTest):
    def test_everything_nothing_names(self):
        self.check([], ([0], 1), ([1], 0), (A, 1), (B, 1), (C, 1), (D, 1))

    def test_both_either_not(self):
        self.check(
            [], (both(A, B), 1), (both(A, no(A)), 0), (both(A, no(B)), 1), (both([0], [1]), 0), (both([1], [0]), 0),
            (both([0], [0]), 1), (either([0], [1]), 1), (either([1], [0]), 1), (either([1], [1]), 0), (no([0]), 0), (no([1]), 1),
        )
        self.check(
            [], (no(either(A, no(A))), 0), (no(both(A, B)), 1), (both(A, no(either(A, B))), 0),
            (both(A, either(no(A), B)), 1), (both(A, no(B), either(no(A), B)), 0), (no(no(both(A, no(A)))), 0), (no(no(A)), 1),
        )

    def test_some_and_each(self):
        for number in range(4):
            with self.subTest(number=number):
                self.check(
                    [], (some(number, [0]), 1), (some(number, [1]), 0), (each(number, [0]), 1), (each(number, [1]), 1),
                    (no(each(number, [0])), 0), (no(each(number, [1])), 1), (no(some(number, [1])), 1), (no(some(number, [0])), 1),
                )

    def test_some_against_each(self):
        for number in range(4):
            for other in range(4):
                with self.subTest(number=number, other=other):
                    apart = 1 if number != other else 0
                    self.check(
                        [], (both(some(number, [0]), each(other, [1])), apart),
                        (both(some(number, A), each(other, no(A))), apart), (both(some(number, A), each(other, A)), 1),
                        (both(some(number, A), no(some(other, A))), apart), (both(no(each(number, A)), each(other, A)), apart),
                        (both(no(each(number, A)), no(some(other, no(A)))), apart), (both(some(number, A), some(other, no(A))), 1),
                    )

    def test_several_things_come_from_one(self):
        self.check(
            [], (both(some(0, A), some(0, no(A))), 1), (both(some(0, A), some(0, no(A)), each(0, B)), 1),
            (both(some(0, A), some(0, B), each(0, either(no(A), no(B)))), 1),
            (both(some(0, A), each(0, B), no(some(0, both(A, B)))), 0), (both(some(0, A), some(0, B), no(some(0, both(A, B)))), 1),
        )

    def test_nested(self):
        self.check(
            [], (some(0, some(1, some(0, A))), 1), (some(0, some(1, some(0, [1]))), 0), (each(0, each(1, some(0, [1]))), 1),
            (both(some(0, some(1, A)), each(0, each(1, no(A)))), 0), (both(some(0, some(1, A)), each(0, each(0, no(A)))), 1),
            (both(some(0, some(1, A)), each(1, each(1, no(A)))), 1), (some(0, both(some(1, A), each(1, no(A)))), 0),
            (each(0, both(some(1, A), each(1, no(A)))), 1), (no(each(0, no(some(1, [1])))), 0), (no(some(0, each(1, [0]))), 1),
        )

    def test_turned_round(self):
        turned = {0: 2, 1: 3, 2: 0, 3: 1}
        for number in range(4):
            for other in range(4):
                with self.subTest(number=number, other=other):
                    back = 0 if other == turned[number] else 1
                    self.check(
                        [], (both(no(A), some(number, each(other, A))), back), (both(A, some(number, each(other, A))), 1),
                        (both(A, some(number, no(some(other, A)))), back), (both(A, no(each(number, some(other, A)))), back),
                        (both(no(A), no(each(number, no(each(other, A))))), back), (both(no(A), each(number, each(other, A))), 1),
                    )

    def test_turned_round_over_two_steps(self):
        self.check(
            [], (both(no(A), some(0, some(1, each(3, each(2, A))))), 0), (both(no(A), some(0, some(1, each(2, each(3, A))))), 1),
            (both(no(A), some(2, some(3, each(1, each(0, A))))), 0), (both(no(A), some(2, some(3, each(0, each(1, A))))), 1),
        )

    def test_the_first_paragraph(self):
        only_such_children = each(0, each(2, A))
        self.check(
            [], (both(only_such_children, some(0, [0]), no(A)), 0), (both(only_such_children, some(0, [0]), A), 1),
            (both(only_such_children, no(A)), 1), (both(some(0, [0]), no(A)), 1), (both(only_such_children, some(1, [0]), no(A)), 1),
        )
        self.check([role(1, 0)], (both(only_such_children, some(1, [0]), no(A)), 0), (both(only_such_children, no(A)), 1))
        self.check([role(0, 1)], (both(only_such_children, some(1, [0]), no(A)), 1))
        self.check([role(3, 2)], (both(only_such_children, some(1, [0]), no(A)), 0))


class AxiomsTest(CanTest):
    def test_names(self):
        self.check(
            [line(A, B)], (A, 1), (B, 1), (both(A, B), 1), (both(A, no(B)), 0), (both(B, no(A)), 1), (both(no(A), no(B)), 1),
        )
        self.check([line(A, B), line(B, C)], (both(A, no(C)), 0), (both(C, no(A)), 1), (both(A, B, C), 1))
        self.check([line(A, [1])], (A, 0), (no(A), 1), ([0], 1), (both(A, B), 0), (some(0, A), 0), (each(0, A), 1))
        self.check([line([0], A)], (A, 1), (no(A), 0), (some(3, no(A)), 0), (no(each(1, A)), 0))
        self.check([line(A, B), line(A, no(B))], (A, 0), (B, 1))

    def test_axioms_hold_of_the_things_one_comes_to(self):
        self.check([line(A, some(0, B)), line(B, [1])], (A, 0), (B, 0), (no(A), 1), (some(1, A), 0))
        self.check([line(A, some(0, B)), line(B, some(1, C)), line(C, [1])], (A, 0), (B, 0), (C, 0), (no(A), 1))
        self.check([line(A, some(0, B)), line(B, some(1, C)), line(C, [0])], (A, 1), (B, 1), (both(A, no(B), no(C)), 1))
        self.check([line(A, each(0, B)), line(B, no(C))], (both(A, some(0, C)), 0), (both(A, C), 1))
        self.check([line(some(0, A), B)], (both(no(B), some(0, A)), 0), (both(no(B), some(1, A)), 1), (both(B, no(A)), 1))

    def test_axioms_that_ask_for_ever_more_things(self):
        self.check([line([0], some(0, [0]))], ([0], 1), (each(0, [1]), 0), (no(A), 1), (each(2, [1]), 1))
        self.check([line(A, some(0, A))], (A, 1), (both(A, each(0, no(A))), 0))
        self.check([line(A, some(0, B)), line(B, some(0, A)), line(A, no(B))], (A, 1), (B, 1), (both(A, B), 0))

    def test_axioms_and_roles_turned_round(self):
        self.check([line(B, each(2, C))], (both(A, some(0, B), no(C)), 0), (both(A, some(1, B), no(C)), 1), (both(A, some(2, B), no(C)), 1))
        self.check([line(A, each(0, B))], (both(no(B), some(2, A)), 0), (both(no(B), some(0, A)), 1), (both(B, some(2, A)), 1))
        self.check([line(some(2, A), B)], (both(A, some(0, no(B))), 0), (both(A, some(2, no(B))), 1))
        self.check([line(A, some(0, B)), line(B, each(2, [1]))], (A, 0), (B, 1))

    def test_axioms_that_no_model_keeps(self):
        told_rows = (
            [line([0], [1])], [line([0], A), line(A, [1])], [line([0], some(0, A)), line(A, [1])],
            [line([0], some(0, A)), line(A, each(2, [1]))], [line([0], some(1, A)), line([0], no(A))],
            [line(A, [1]), line(no(A), [1])], [role(0, 1), line([0], some(0, [0])), line([0], each(1, [1]))],
        )
        for told in told_rows:
            with self.subTest(told=told):
                self.check(told, ([0], 0), ([1], 0), (A, 0), (no(A), 0), (each(0, [1]), 0), (some(0, [0]), 0), (no([1]), 0), (B, 0))

    def test_axioms_and_roles_told(self):
        self.check([role(0, 1), line(A, each(1, B))], (both(A, some(0, no(B))), 0), (both(A, some(1, B)), 1), (both(A, some(2, no(B))), 1))
        self.check([role(0, 3), line(A, each(1, B))], (both(no(B), some(0, A)), 0), (both(no(B), some(2, A)), 1))
        self.check([role(0, 2), line(A, each(0, B))], (both(no(B), some(0, A)), 0), (both(no(B), some(1, A)), 1))
        self.check([role(0, 1), role(1, 3), line(A, each(3, B))], (both(A, some(0, no(B))), 0), (both(A, some(2, no(B))), 0))
        self.check([line(A, each(1, B)), role(1, 0)], (both(A, some(0, no(B))), 1))

    def test_what_is_told_later_counts_from_then_on(self):
        asked = can(*both(A, some(0, no(B))))
        self.expect([asked, line(A, each(1, B)), asked, role(0, 1), asked, begins(), asked], [1, 0, 1, 0, 0, 0, 1])

    def test_asking_tells_nothing(self):
        four = both(some(0, [0]), some(1, [0]), some(2, [0]), some(3, [0]))
        self.expect([can(*A), can(*no(A)), can(*four), line(both(A, B, C, D), some(0, A)), can(*four)], [1, 1, 1, 0, -7])


class RefusalTest(CanTest):
    def test_what_is_not_just_a_concept(self):
        for row in NOT_ONE:
            with self.subTest(row=row):
                self.expect([can(*row), can(0), line([0], [0])], [-1, 1, 0])

    def test_just_5_atoms_are_answered(self):
        for concept in (
            both(A, B, C, D, some(0, [0])), both(A, B, C, D, each(3, [0])), some(0, some(0, some(0, some(0, A)))),
            some(0, some(0, some(0, some(0, some(0, [0]))))), each(0, some(1, each(2, some(3, D)))),
            both(some(0, A), some(1, A), some(2, A), some(3, A)), each(0, both(A, B, C, D)),
        ):
            with self.subTest(concept=concept):
                self.expect([can(*concept), can(*both(concept, concept)), can(*both(concept, no(concept)))], [1, 1, 0])

    def test_more_than_5_atoms(self):
        for concept in (
            both(A, B, C, D, some(0, [0]), each(0, [0])), both(A, B, C, D, some(0, [0]), some(1, [0])),
            both(A, B, C, D, some(0, [0]), some(0, [1])), some(0, some(0, some(0, some(0, some(0, A))))),
            some(0, some(0, some(0, some(0, some(0, some(0, [0])))))), both(each(0, some(1, each(2, some(3, D)))), A),
            both(some(0, A), some(1, A), some(2, A), some(3, A), B), each(0, both(A, B, C, some(1, D))),
            [6, 0] * 14 + A, [7, 3] * 14 + [5, 1], both([1], A, B, C, D, some(0, [0]), each(0, [0])),
        ):
            with self.subTest(concept=concept):
                self.expect([can(*concept), can(0), line([0], A), can(*A)], [-7, 1, 0, 1])

    def test_with_the_atoms_of_the_axioms(self):
        axioms = [line(A, B), line(C, some(0, D))]
        self.check(
            axioms, (both(A, B), 1), (both(A, no(B)), 0), (some(0, D), 1), (both(some(0, D), C, D, A), 1), (both(C, each(0, no(D))), -7),
            (some(1, D), -7), (some(0, A), -7), (each(0, D), -7), (both(C, no(some(0, D))), 0), ([0], 1), ([1], 0),
        )
        self.check([line(A, B), line(B, C)], (both(A, D, no(C)), 0), (some(0, some(0, A)), 1), (some(0, some(0, some(0, A))), -7), (both(D, some(0, D)), 1))

    def test_wrong_form_goes_ahead_of_too_many_atoms(self):
        six = SIX_ATOMS
        self.expect([can(*six), can(*six, 0), can(*both(six, [2, 4])), can(3, *six)], [-7, -1, -1, -1])


if __name__ == "__main__":
    unittest.main()
