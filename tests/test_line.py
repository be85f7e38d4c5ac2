"""Point 1 for line, and what begins takes back."""

import unittest

from tests.oracle import ExpectTest, NOT_TWO, begins, can, line


class LineTest(ExpectTest):
    def test_axioms_are_numbered_from_0(self):
        self.expect([
            line([2, 0], [2, 1]), line([0], [6, 0, 2, 0]), line([1], [0]), line([2, 0], [2, 1]),
            line([3, 2, 0, 2, 1], [4, 0, 5, 1]),
        ], [0, 1, 2, 3, 4])

    def test_every_first_number_is_taken(self):
        for concept in ([0], [1], [2, 0], [2, 3], [3, 0, 1], [4, 0, 1], [5, 0], [6, 0, 0], [6, 3, 0], [7, 0, 0], [7, 3, 0]):
            with self.subTest(concept=concept):
                self.expect([line(concept, [0]), line([0], concept)], [0, 1])

    def test_what_is_not_just_two_concepts(self):
        for row in NOT_TWO:
            with self.subTest(row=row):
                self.expect([line(row), line([0], [0])], [-1, 0])

    def test_a_sixth_axiom(self):
        five = [line([0], [0])] * 5
        self.expect(five + [line([0], [0]), line([0], [1]), can(0)], [0, 1, 2, 3, 4, -7, -7, 1])

    def test_a_sixth_that_is_wrong_is_refused_for_that(self):
        five = [line([0], [0])] * 5
        self.expect(five + [line([0]), line([]), line([0], [2, 4]), line([0], [0])], [0, 1, 2, 3, 4, -1, -1, -1, -7])

    def test_just_5_atoms_are_taken(self):
        self.expect([line([2, 0], [3, 2, 1, 3, 2, 2, 3, 2, 3, 6, 0, 0])], [0])
        self.expect([line([2, 0], [3, 2, 1, 3, 2, 2, 3, 2, 3, 6, 0, 0]), line([2, 3], [6, 0, 0])], [0, 1])
        self.expect([line([6, 0, 7, 1, 6, 2, 7, 3, 2, 0], [0])], [0])

    def test_more_than_5_atoms(self):
        self.expect([line([7, 0, 0], [3, 2, 0, 3, 2, 1, 3, 2, 2, 3, 2, 3, 6, 0, 0])], [-7])
        self.expect([line([6, 0, 7, 1, 6, 2, 7, 3, 2, 0], [2, 1])], [-7])
        self.expect([line([6, 0, 6, 0, 6, 0, 6, 0, 6, 0, 2, 0], [0])], [-7])
        self.expect([line([2, 0], [2, 1]), line([2, 2], [2, 3]), line([6, 0, 0], [7, 0, 0])], [0, 1, -7])

    def test_atoms_are_counted_once_and_as_they_stand(self):
        self.expect([line([6, 0, 2, 0], [6, 1, 2, 0]), line([6, 2, 2, 0], [7, 0, 2, 0])], [0, 1])
        self.expect([line([6, 0, 2, 0], [6, 1, 2, 0]), line([6, 2, 2, 0], [7, 0, 2, 1])], [0, -7])
        self.expect([line([6, 0, 3, 2, 0, 2, 1], [6, 0, 3, 2, 1, 2, 0]), line([2, 2], [0])], [0, 1])
        self.expect([line([6, 0, 3, 2, 0, 2, 1], [6, 0, 3, 2, 1, 2, 0]), line([2, 2], [2, 3])], [0, -7])
        self.expect([line([6, 0, 0], [6, 0, 1]), line([6, 0, 5, 0], [6, 0, 5, 1]), line([6, 0, 5, 5, 0], [0])], [0, 1, 2])

    def test_wrong_form_goes_ahead_of_too_many_atoms(self):
        six = [3, 7, 0, 0, 3, 2, 0, 3, 2, 1, 3, 2, 2, 3, 2, 3, 6, 0, 0]
        self.expect([line(six), line(six, [0], [0]), line(six, [2, 4]), line(six, [0])], [-1, -1, -1, -7])

    def test_after_a_refusal_all_is_as_it_was(self):
        six = [3, 7, 0, 0, 3, 2, 0, 3, 2, 1, 3, 2, 2, 3, 2, 3, 6, 0, 0]
        five = [3, 7, 0, 1, 3, 7, 1, 1, 3, 7, 2, 1, 3, 7, 3, 1, 6, 0, 1]
        self.expect([line(six, [1]), line([0], [1], [0]), can(*five), line(five, [0]), line([0], [0])], [-7, -1, 0, 0, 1])
        self.expect([line(six, [0]), can(3, 2, 0, 2, 1)], [-7, 1])
        self.expect([line([2, 0], [2, 1]), line([0], [4, 1]), line(six, [1]), can(3, 2, 0, 5, 2, 1), can(2, 0)], [0, -1, -7, 0, 1])


class BeginsTest(ExpectTest):
    def test_nothing_is_left_of_the_axioms(self):
        self.expect([
            begins(), line([0], [1]), can(0), begins(), can(0), line([0], [0]), begins(), begins(), line([2, 0], [0]),
        ], [0, 0, 0, 0, 1, 0, 0, 0, 0])

    def test_five_axioms_again(self):
        five = [line([0], [0])] * 5
        self.expect(five + [begins()] + five + [line([0], [0])], [0, 1, 2, 3, 4, 0, 0, 1, 2, 3, 4, -7])

    def test_five_atoms_again(self):
        names = line([3, 2, 0, 2, 1], [3, 2, 2, 2, 3])
        others = line([3, 6, 0, 0, 6, 1, 0], [3, 6, 2, 0, 6, 3, 0])
        self.expect([names, others, begins(), others, names], [0, -7, 0, 0, -7])


if __name__ == "__main__":
    unittest.main()
