"""The interface: how calls lie in the one list, what is given back, and what is left as it was."""

import json
import pathlib
import random
import re
import sys
import time
import unittest

from rolehouse.house import UnknownCall, answers
from tests.oracle import (
    A, B, C, D, LARGEST, SIX_ATOMS, begins, both, can, each, either, join, line, model, names, no, random_concept,
    reference_answers, role, roles, some, split_answers, under,
)

MIXED = join(
    begins(), line(A, some(0, B)), role(0, 1), can(*both(A, each(1, no(B)))), line([]), role(4, 0), can(), under(A, some(1, B)),
    under(A), line(B, each(2, C)), can(*both(A, no(C))), model(A), model([2]), roles(), model(SIX_ATOMS), names(), can(*D),
    model(both(A, no(C))), begins(), roles(), can(*both(A, each(1, no(B)))), role(3, 3), under(A, some(1, B)), line([0], [1]), names(),
)
IDENTITY = [1, 0, 0, 0, 0, 1, 0, 0, 0, 0, 1, 0, 0, 0, 0, 1]
MIXED_ANSWERS = [
    [0], [0], [0], [0], [-1], [-1], [-1], [1],
    [-1], [1], [0], [3, 5, 2, 0, 1, 1, 1, 2, 0, 0, 4, 0, 0, 0, 2, 1, 0, 1, 2],
    [-1], [4, 1, 1, 0, 0, 0, 1, 0, 0, 0, 0, 1, 1, 0, 0, 0, 1], [-7],
    [1, 1, 0, 1, 0, 0, 1, 0, 0, 0, 0, 1, 0, 0, 0, 0, 1], [-7],
    [-6], [0], [4, *IDENTITY], [1], [0], [0], [0], [0, *[1] * 16],
]


class FrozenList(list):
    """A list that can be read alone."""

    def refuse(self, *args, **kwargs):
        raise AssertionError("what was handed in is changed")

    append = extend = insert = pop = remove = clear = sort = reverse = refuse
    __setitem__ = __delitem__ = __iadd__ = __imul__ = refuse


class AnswersTest(unittest.TestCase):
    def test_each_call_has_its_count_ahead(self):
        self.assertEqual(answers([0]), [1, 0])
        self.assertEqual(answers([1, 2, 0, 0]), [1, 0])
        self.assertEqual(answers([2, 1, 2]), [1, 0])
        self.assertEqual(answers([3, 1, 0]), [1, 1])
        self.assertEqual(answers([4, 2, 0, 0]), [1, 1])
        self.assertEqual(answers([5, 3, 6, 0, 0]), [7, 2, 0, 1, 0, 1, 0, 0])
        self.assertEqual(answers([6]), [17, 4, 1, 0, 0, 0, 0, 1, 0, 0, 0, 0, 1, 0, 0, 0, 0, 1])
        self.assertEqual(answers([7]), [17, 1, 1, 0, 0, 0, 0, 1, 0, 0, 0, 0, 1, 0, 0, 0, 0, 1])
        self.assertEqual(answers([3, 2, 2, 0, 3, 1, 1, 2, 0, 0, 2, 0, 0, 1, 3, 2, 3, 0, 0]), [1, 1, 1, 0, 1, 0, 1, 1, 1, 0, 1, 0])

    def test_all_eight_calls_in_one_list(self):
        self.assertEqual(
            answers([7, 6, 5, 2, 2, 1, 4, 4, 2, 0, 2, 1, 3, 2, 2, 3, 2, 0, 2, 1, 4, 2, 0, 2, 1, 5, 3, 6, 2, 0, 6, 7, 0, 6, 5, 1, 0]),
            [17, 1, *IDENTITY, 17, 4, *IDENTITY]
            + [3, 1, 2, 0] + [1, 0] + [1, 1] + [1, 0] + [1, 0] + [5, 1, 0, 1, 0, 0]
            + [17, 4, 1, 0, 1, 0, 0, 1, 0, 0, 1, 0, 1, 0, 0, 0, 0, 1] + [17, 1, 1, 1, 0, 0, 0, 1, 0, 0, 0, 0, 1, 0, 0, 0, 0, 1]
            + [1, 0] + [17, 4, *IDENTITY] + [3, 1, 0, 0],
        )

    def test_the_examples_of_the_readme(self):
        text = (pathlib.Path(__file__).resolve().parent.parent / "README.md").read_text()
        examples = re.findall(r"answers\((\[.*\])\) +# (\[.*\])", text)
        self.assertEqual(len(examples), 2)
        for calls, given in examples:
            self.assertEqual(answers(json.loads(calls)), json.loads(given))

    def test_a_refusal_is_its_number_alone(self):
        self.assertEqual(answers([1, 0]), [1, -1])
        self.assertEqual(answers([3, 0]), [1, -1])
        self.assertEqual(answers([2, 4, 4]), [1, -1])
        self.assertEqual(answers([4, 0]), [1, -1])
        self.assertEqual(answers([5, 0]), [1, -1])
        self.assertEqual(answers([5, 1, 1]), [1, -6])
        self.assertEqual(answers([5, 13] + [6, 0] * 6 + [0]), [1, -7])
        self.assertEqual(answers([3, 0, 3, 1, 0, 1, 0, 0, 1, 1, 0, 3, 1, 0]), [1, -1, 1, 1, 1, -1, 1, 0, 1, -1, 1, 1])
        self.assertEqual(answers([1, 1, LARGEST, 2, LARGEST, LARGEST, 3, 1, LARGEST, 0]), [1, -1, 1, -1, 1, -1, 1, 0])
        self.assertEqual(answers([4, 1, LARGEST, 5, 1, LARGEST, 4, 2, 7, LARGEST, 5, 2, 2, LARGEST, 0]), [1, -1, 1, -1, 1, -1, 1, -1, 1, 0])

    def test_several_calls_in_order(self):
        self.assertEqual(split_answers(answers(MIXED)), MIXED_ANSWERS)

    def test_a_list_of_whole_numbers(self):
        given = answers(MIXED)
        self.assertIs(type(given), list)
        for number in given:
            self.assertIs(type(number), int)

    def test_what_is_handed_in_stays_as_it_was(self):
        calls = list(MIXED)
        answers(calls)
        self.assertEqual(calls, MIXED)
        self.assertEqual(answers(FrozenList(MIXED)), answers(MIXED))

    def test_nothing_is_kept(self):
        first = answers(MIXED)
        answers(join(line([0], [1]), role(0, 1), role(0, 2)))
        self.assertEqual(answers(can(0)), [1, 1])
        self.assertEqual(answers(role(0, 1)), [1, 0])
        self.assertEqual(answers(line([0], [0])), [1, 0])
        self.assertEqual(answers(under([0], A)), [1, 0])
        self.assertEqual(answers(join(roles(), names(), model([0]))), [17, 4, *IDENTITY, 17, 1, *IDENTITY, 3, 1, 0, 0])
        second = answers(MIXED)
        self.assertEqual(first, second)
        second.append(7)
        self.assertEqual(answers(MIXED), first)

    def test_another_call_is_told_apart(self):
        self.assertRaises(UnknownCall, answers, [8])
        self.assertRaises(UnknownCall, answers, [0, LARGEST])


class LongTest(unittest.TestCase):
    def check(self, calls, seconds=2):
        self.assertLessEqual(len(calls), 2000)
        before = time.perf_counter()
        given = answers(calls)
        self.assertLess(time.perf_counter() - before, seconds)
        self.assertEqual(given, reference_answers(calls))
        return split_answers(given)

    def check_rows(self, asked, pairs):
        for row, expected in pairs:
            self.assertLessEqual(len(row), 30)
        lists = self.check(join(*[asked(row) for row, expected in pairs]))
        self.assertEqual(lists, [expected if isinstance(expected, list) else [expected] for row, expected in pairs])

    def test_can_and_model_nested_as_deep_as_they_go(self):
        rows = [
            ([5] * 29 + [0], 0), ([5] * 29 + [1], 1), ([5] * 28 + A, 1), ([5] * 30, -1), ([6, 0] * 14 + A, -7),
            ([7, 1] * 14 + [5, 0], -7), ([6, 0] * 15, -1), ([3] * 14 + [0] * 14 + D, 1), ([4] * 14 + [1] * 15 + [0], -1),
            ([3, 0] * 14 + D, 1), ([3, 0] * 14 + [2, 4], -1), ([3] * 30, -1),
        ]
        self.check_rows(lambda row: can(*row), rows)
        things = {A[1]: [1, 1, 0], D[1]: [1, 8, 0], 1: [1, 0, 0]}
        self.check_rows(model, [(row, things[row[-1]] if number == 1 else number or -6) for row, number in rows])

    def test_under_nested_as_deep_as_it_goes(self):
        self.check_rows(under, [
            ([5] * 28 + [0] + [1], 0), ([5] * 28 + [0] + [0], 1), ([0] + [5] * 28 + [0], 1), ([0] + [5] * 28 + [1], 0), ([5] * 30, -1),
            ([5] * 27 + A + [1], 0), ([0] + [6, 0] * 13 + A, -7), ([6, 0] * 15, -1), ([3] * 14 + [0] * 14 + [1] + [1], 1),
            ([3, 0] * 13 + A + A, 1), ([3, 0] * 13 + A + [2, 4], -1), ([5] * 13 + A + [5] * 13 + A, 1),
        ])

    def test_lines_nested_as_deep_as_they_go(self):
        self.assertEqual(self.check(join(
            line([5] * 28 + [0], [0]), line([0], [5] * 28 + [0]), line([5] * 14 + [0], [5] * 13 + [1]), can(0), line([5] * 28 + [1], [1]),
            can(0), line([5] * 29 + [0]), line([0], [6, 0] * 13 + [2, 0]), line([5] * 28 + [0], [1]), can(0),
        )), [[number] for number in (0, 1, 2, 1, 3, 1, -1, -7, 4, 0)])

    def test_60_calls(self):
        row = [5] * 8 + [3, 6, 0, 7, 2, 2, 0, 3, 7, 1, 5, 7, 2, 2, 0, 6, 3, 2, 0]
        long_row = line([5] * 15 + [0], [5] * 13 + [1])
        asked = join(*[can(*row), model(row), under(row, [0]), model([5] + row)] * 3)
        lists = self.check(join(role(0, 1), role(1, 2), role(3, 3), role(2, 1), asked, *[long_row] * 40, *[roles()] * 4))
        self.assertEqual(len(lists), 60)
        self.assertEqual(lists[:4] + lists[16:56], [[number] for number in [0, 1, 2, 3] + [0, 1, 2, 3, 4] + [-7] * 35])
        self.assertEqual(lists[56:], [[4] + [1] * 16] * 4)
        self.assertEqual(self.check(roles() * 60), [[4, *IDENTITY]] * 60)

    def test_12_calls_that_ask_with_5_atoms_and_4_roles_told(self):
        rng = random.Random(5)
        axioms = [line(A, some(0, B)), line(some(2, A), each(1, A)), line(B, either(A, some(2, A)))]
        parts = [some(0, B), no(each(1, A)), some(2, A), A, no(B)]
        for told in ([(0, 1)], [(0, 1), (1, 2)], [(0, 2), (1, 3)], [(0, 3), (3, 1), (0, 0), (2, 2)], [(0, 1), (1, 0), (3, 3), (2, 3)]):
            calls = join(*axioms, *[role(*pair) for pair in (told + [(1, 1)] * 3)[:4]])
            for number in range(12):
                first, second = rng.choice(parts), rng.choice(parts)
                calls += (can(*both(first, second)), under(first, second), model(either(second, first)), names())[number % 4]
            self.assertNotIn([-7], self.check(calls))

    def test_12_calls_that_ask_where_each_thing_owes_much(self):
        axioms = [line([0], some(0, some(1, some(2, some(3, some(0, [0]))))))]
        others = [line([0], no(each(0, either(each(1, no(each(2, [1]))), each(3, A)))))]
        for begun in (axioms, others):
            for told in ([], [(0, 1), (1, 2), (3, 3), (2, 1)], [(0, 2), (1, 3), (0, 0), (1, 1)]):
                calls = join(*begun, *[role(*pair) for pair in told])
                self.check(calls + join(*[model([0])] * 12))
                self.check(calls + join(*[names()] * 2, *[under([0], [1])] * 10))

    def full_row(self, rng, length):
        row = [0]
        while len(row) < length - 4:
            row = [rng.choice((3, 4))] + row + random_concept(rng, 1, 1)
        return row[:length]

    def test_full_rows_by_chance(self):
        rng = random.Random(6)
        for _ in range(8):
            self.check(join(*[can(*self.full_row(rng, 30)) for call in range(12)]))
            self.check(join(*[model(self.full_row(rng, 30)) for call in range(12)]))
            self.check(join(*[under(self.full_row(rng, 15), self.full_row(rng, 15)) for call in range(12)]))


class LoopsTest(unittest.TestCase):
    def deepest(self, calls):
        """How many calls of Python's stood within one another."""
        depth = [0, 0]

        def count(frame, event, argument):
            if event == "call":
                depth[0] += 1
                depth[1] = max(depth)
            elif event == "return":
                depth[0] -= 1

        sys.setprofile(count)
        try:
            answers(calls)
        finally:
            sys.setprofile(None)
        return depth[1]

    def test_what_is_long_or_nested_is_gone_through_by_loops(self):
        pairs = [
            (can(5, 0), can(*[5] * 29, 0)), (can(3, 0, 2, 0), can(*[3, 0] * 14, 2, 0)), (can(3, 0, 2, 0), can(*[3] * 14, *[0] * 14, 2, 0)),
            (can(6, 0, 0), can(*[6, 0] * 5, 0)), (line([5, 0], [0]), line([5] * 28 + [0], [0])), (can(2, 0), can(2, 0) * 12),
            (line([2, 0], [0]), line([2, 0], [0]) * 60), (begins(), begins() * 60),
            (under([5, 0], [0]), under([5] * 28 + [0], [0])), (under([0], A), under([0], A) * 12), (model([5, 1]), model([5] * 29 + [1])),
            (model(some(0, A)), model(some(0, some(0, some(0, some(0, A)))))), (names(), names() * 12), (roles(), roles() * 60),
            (role(0, 1) + roles(), join(role(0, 1), role(1, 2), role(2, 3), role(3, 3), roles())),
            (role(0, 1) + can(6, 0, 2, 0), join(role(0, 1), role(1, 2), role(2, 3), role(3, 3), can(6, 0, 2, 0))),
        ]
        for short, long in pairs:
            with self.subTest(long=long):
                self.assertEqual(self.deepest(short), self.deepest(long))


if __name__ == "__main__":
    unittest.main()
