"""The interface: how calls lie in the one list, what is given back, and what is left as it was."""

import random
import sys
import time
import unittest

from rolehouse.house import UnknownCall, answers
from tests.oracle import begins, can, join, line, random_concept, reference_answers, role

LARGEST = 4294967295
MIXED = join(
    begins(), line([2, 0], [6, 0, 2, 1]), role(0, 1), can(3, 2, 0, 7, 1, 5, 2, 1), line([]), role(4, 0), can(),
    line([2, 1], [7, 2, 2, 2]), can(3, 2, 0, 5, 2, 2), can(2, 3), begins(), can(3, 2, 0, 7, 1, 5, 2, 1), role(3, 3), line([1], [1]),
)
MIXED_NUMBERS = [0, 0, 0, 0, -1, -1, -1, 1, 0, -7, 0, 1, 0, 0]


class FrozenList(list):
    """A list that can be read alone."""

    def refuse(self, *args, **kwargs):
        raise AssertionError("what was handed in is changed")

    append = extend = insert = pop = remove = clear = sort = reverse = refuse
    __setitem__ = __delitem__ = __iadd__ = __imul__ = refuse


class AnswersTest(unittest.TestCase):
    def test_each_call_has_its_count_ahead(self):
        self.assertEqual(answers(begins()), [1, 0])
        self.assertEqual(answers(line([0], [0])), [1, 0])
        self.assertEqual(answers(role(1, 2)), [1, 0])
        self.assertEqual(answers(can(0)), [1, 1])
        self.assertEqual(answers([3, 2, 2, 0, 3, 1, 1, 2, 0, 0, 2, 0, 0, 1, 3, 2, 3, 0, 0]), [1, 1, 1, 0, 1, 0, 1, 1, 1, 0, 1, 0])

    def test_a_refusal_is_its_number_alone(self):
        self.assertEqual(answers([1, 0]), [1, -1])
        self.assertEqual(answers([3, 0]), [1, -1])
        self.assertEqual(answers([2, 4, 4]), [1, -1])
        self.assertEqual(answers([3, 0, 3, 1, 0, 1, 0, 0, 1, 1, 0, 3, 1, 0]), [1, -1, 1, 1, 1, -1, 1, 0, 1, -1, 1, 1])
        self.assertEqual(answers([1, 1, LARGEST, 2, LARGEST, LARGEST, 3, 1, LARGEST, 0]), [1, -1, 1, -1, 1, -1, 1, 0])

    def test_several_calls_in_order(self):
        given = answers(MIXED)
        self.assertEqual(given[::2], [1] * len(MIXED_NUMBERS))
        self.assertEqual(given[1::2], MIXED_NUMBERS)

    def test_a_list_of_whole_numbers(self):
        given = answers(MIXED)
        self.assertIs(type(given), list)
        for number in given:
            self.assertIs(type(number), int)

    def test_what_is_handed_in_stays_as_it_was(self):
        calls = list(MIXED)
        answers(calls)
        self.assertEqual(calls, MIXED)
        self.assertEqual(answers(FrozenList(MIXED)), answers(MIXED))

    def test_nothing_is_kept(self):
        first = answers(MIXED)
        answers(join(line([0], [1]), role(0, 1), role(0, 2)))
        self.assertEqual(answers(can(0)), [1, 1])
        self.assertEqual(answers(role(0, 1)), [1, 0])
        self.assertEqual(answers(line([0], [0])), [1, 0])
        second = answers(MIXED)
        self.assertEqual(first, second)
        second.append(7)
        self.assertEqual(answers(MIXED), first)

    def test_another_call_is_told_apart(self):
        self.assertRaises(UnknownCall, answers, [8])
        self.assertRaises(UnknownCall, answers, [0, LARGEST])


class LongTest(unittest.TestCase):
    def check(self, calls, seconds=5):
        self.assertLessEqual(len(calls), 2000)
        before = time.perf_counter()
        given = answers(calls)
        self.assertLess(time.perf_counter() - before, seconds)
        self.assertEqual(given, reference_answers(calls))
        return given[1::2]

    def test_rows_nested_as_deep_as_they_go(self):
        rows = [
            ([5] * 29 + [0], 0), ([5] * 29 + [1], 1), ([5] * 28 + [2, 0], 1), ([5] * 30, -1), ([6, 0] * 14 + [2, 0], -7),
            ([7, 1] * 14 + [5, 0], -7), ([6, 0] * 15, -1), ([3] * 14 + [0] * 14 + [2, 3], 1), ([4] * 14 + [1] * 15 + [0], -1),
            ([3, 0] * 14 + [2, 3], 1), ([3, 0] * 14 + [2, 4], -1), ([3] * 30, -1),
        ]
        for row, number in rows:
            self.assertLessEqual(len(row), 30)
        self.assertEqual(self.check(join(*[can(*row) for row, number in rows])), [number for row, number in rows])

    def test_lines_nested_as_deep_as_they_go(self):
        self.assertEqual(self.check(join(
            line([5] * 28 + [0], [0]), line([0], [5] * 28 + [0]), line([5] * 14 + [0], [5] * 13 + [1]), can(0), line([5] * 28 + [1], [1]),
            can(0), line([5] * 29 + [0]), line([0], [6, 0] * 13 + [2, 0]), line([5] * 28 + [0], [1]), can(0),
        )), [0, 1, 2, 1, 3, 1, -1, -7, 4, 0])

    def test_60_calls(self):
        asked = can(*[5] * 8, 3, 6, 0, 7, 2, 2, 0, 3, 7, 1, 5, 7, 2, 2, 0, 6, 3, 2, 0)
        long_row = line([5] * 15 + [0], [5] * 13 + [1])
        calls = join(role(0, 1), role(1, 2), role(3, 3), role(2, 1), *[asked] * 12, *[long_row] * 44)
        numbers = self.check(calls)
        self.assertEqual(len(numbers), 60)
        self.assertEqual(numbers[:4] + numbers[16:], [0, 1, 2, 3] + [0, 1, 2, 3, 4] + [-7] * 39)

    def test_12_calls_of_can_with_5_atoms(self):
        rng = random.Random(5)
        for told in ([], [(0, 1)], [(0, 1), (1, 2)], [(0, 2), (1, 3)], [(0, 3), (3, 1), (0, 0), (2, 2)]):
            axioms = [line([2, 0], [6, 0, 2, 1]), line([6, 2, 2, 0], [7, 1, 2, 0]), line([2, 1], [4, 2, 0, 6, 2, 2, 0])]
            calls = join(*axioms, *[role(*pair) for pair in told])
            for _ in range(12):
                calls += can(*rng.choice(([3, 2, 0], [4, 2, 1], [3, 5, 2, 1])), *rng.choice(([6, 0, 2, 1], [5, 7, 1, 2, 0], [6, 2, 2, 0])))
            numbers = self.check(calls)
            self.assertTrue(all(number >= 0 for number in numbers))

    def test_full_rows_by_chance(self):
        rng = random.Random(6)
        for _ in range(10):
            calls = []
            for call in range(12):
                row = []
                while len(row) < 26:
                    row = [rng.choice((3, 4))] + (row or [0]) + random_concept(rng, 1, 1)
                calls += can(*row[:30])
            self.check(calls)


class LoopsTest(unittest.TestCase):
    def deepest(self, calls):
        """How many calls of Python's stood within one another."""
        depth = [0, 0]

        def count(frame, event, argument):
            if event == "call":
                depth[0] += 1
                depth[1] = max(depth)
            elif event == "return":
                depth[0] -= 1

        sys.setprofile(count)
        try:
            answers(calls)
        finally:
            sys.setprofile(None)
        return depth[1]

    def test_what_is_long_or_nested_is_gone_through_by_loops(self):
        pairs = [
            (can(5, 0), can(*[5] * 29, 0)), (can(3, 0, 2, 0), can(*[3, 0] * 14, 2, 0)), (can(3, 0, 2, 0), can(*[3] * 14, *[0] * 14, 2, 0)),
            (can(6, 0, 0), can(*[6, 0] * 5, 0)), (line([5, 0], [0]), line([5] * 28 + [0], [0])), (can(2, 0), can(2, 0) * 12),
            (line([2, 0], [0]), line([2, 0], [0]) * 60), (begins(), begins() * 60),
            (role(0, 1) + can(6, 0, 2, 0), join(role(0, 1), role(1, 2), role(2, 3), role(3, 3), can(6, 0, 2, 0))),
        ]
        for short, long in pairs:
            with self.subTest(long=long):
                self.assertEqual(self.deepest(short), self.deepest(long))


if __name__ == "__main__":
    unittest.main()
