"""Random lines: answers against models themselves, and against the document's words step by step."""

import itertools
import random
import unittest

from rolehouse.house import answers
from tests.oracle import (
    atoms, begins, can, join, line, model, model_of_kinds, names, possible_kinds, random_concept, read_all, read_model,
    reference_answers, role, roles, small_models, split_answers, under, under_pairs,
)


def random_told(rng, axioms, roles):
    """Axioms as rows, pairs of roles, and a row to ask for, with at most 5 atoms in all."""
    while True:
        rows = [(random_concept(rng, rng.randrange(3)), random_concept(rng, rng.randrange(3))) for _ in range(axioms)]
        asked = random_concept(rng, rng.randrange(1, 4))
        flat = [row for pair in rows for row in pair] + [asked]
        if max(len(row) for row in flat) <= 15 and 2 <= len(atoms([read_all(row, 1)[0] for row in flat])) <= 5:
            told = [(rng.randrange(4), rng.randrange(4)) for _ in range(roles)]
            return rows, told, asked


def told_calls(rows, told):
    return join(*[line(first, second) for first, second in rows], *[role(*pair) for pair in told])


def ask(rows, told, asked):
    return split_answers(answers(told_calls(rows, told) + asked))[-1]


def concepts_of(rows):
    return [(read_all(first, 1)[0], read_all(second, 1)[0]) for first, second in rows]


def all_small_models(names_in_use):
    return itertools.chain(small_models(names_in_use, 1), small_models(names_in_use, 2))


class ModelsTest(unittest.TestCase):
    def check(self, rows, told, asked):
        axioms = concepts_of(rows)
        concept = read_all(asked, 1)[0]
        found = atoms([part for pair in axioms for part in pair] + [concept])
        number = ask(rows, told, can(*asked))[0]
        if number == 1:
            pairs = under_pairs(told)
            whole = model_of_kinds(possible_kinds(axioms, pairs, found), pairs)
            self.assertTrue(whole.keeps(axioms, told) and whole.somewhere(concept), (rows, told, asked))
        else:
            self.assertEqual(number, 0)
            for small in all_small_models([atom[1] for atom in found if atom[0] == 2]):
                self.assertFalse(small.somewhere(concept) and small.keeps(axioms, told), (rows, told, asked))
        return number

    def test_a_model_is_there_just_where_can_says_so(self):
        rng = random.Random(1)
        counts = [0, 0]
        while min(counts) < 25:
            rows, told, asked = random_told(rng, rng.randrange(4), rng.randrange(4))
            if counts[ask(rows, told, can(*asked))[0]] < 200:
                counts[self.check(rows, told, asked)] += 1

    def test_the_told_model_is_one(self):
        rng = random.Random(7)
        counts = {True: 0, False: 0}
        while min(counts.values()) < 60:
            rows, told, asked = random_told(rng, rng.randrange(4), rng.randrange(5))
            numbers = ask(rows, told, model(asked))
            there = numbers != [-6]
            counts[there] += 1
            self.assertEqual([1 if there else 0], ask(rows, told, can(*asked)), (rows, told, asked))
            if there:
                one = read_model(numbers)
                self.assertTrue(one.keeps(concepts_of(rows), told), (rows, told, asked))
                self.assertTrue(one.has(0, read_all(asked, 1)[0]), (rows, told, asked))

    def test_what_falls_under_what(self):
        rng = random.Random(8)
        counts = [0, 0]
        while min(counts) < 25:
            rows, told, asked = random_told(rng, rng.randrange(1, 4), rng.randrange(4))
            first, second = rng.choice(rows)[0], asked
            number = ask(rows, told, under(first, second))[0]
            if counts[number] >= 60 or len(first + second) > 28:
                continue
            counts[number] += 1
            if number == 0:
                one = read_model(ask(rows, told, model([3] + first + [5] + second)))
                self.assertTrue(one.keeps(concepts_of(rows), told), (rows, told, asked))
                self.assertTrue(one.has(0, read_all(first, 1)[0]) and not one.has(0, read_all(second, 1)[0]))
            else:
                self.check(rows, told, [3] + first + [5] + second)

    def test_names_in_small_models(self):
        rng = random.Random(9)
        for _ in range(12):
            rows, told, asked = random_told(rng, rng.randrange(1, 5), rng.randrange(4))
            numbers = ask(rows, told, names())
            for small in small_models([0, 1, 2], 1):
                if small.keeps(concepts_of(rows), told):
                    self.assertEqual(numbers[0], 1)
                    for lower, upper in itertools.product(small.names[0], {0, 1, 2} - small.names[0]):
                        self.assertEqual(numbers[1 + 4 * lower + upper], 0, (rows, told))


class WordsTest(unittest.TestCase):
    def test_lines_of_what_is_right(self):
        rng = random.Random(2)
        for _ in range(250):
            rows, told, asked = random_told(rng, rng.randrange(1, 5), rng.randrange(5))
            calls = begins() + told_calls(rows, told) + roles()
            for wanted in [asked, [5] + asked, [0], rows[0][0]]:
                calls += can(*wanted) + model(wanted)
            for first, second in ((asked, rows[0][0]), (rows[0][1], asked), rows[-1]):
                calls += under(first, second)
            self.assertEqual(answers(calls), reference_answers(calls), calls)

    def test_names(self):
        rng = random.Random(4)
        for _ in range(60):
            rows, told, asked = random_told(rng, rng.randrange(1, 4), rng.randrange(5))
            calls = told_calls(rows, told) + names()
            self.assertEqual(answers(calls), reference_answers(calls), calls)

    def test_lines_of_anything(self):
        rng = random.Random(3)
        for _ in range(300):
            calls = []
            asked = 0
            for _ in range(rng.randrange(1, 40)):
                number = rng.choice((0, 1, 1, 1, 1, 1, 2, 2, 3, 4, 4, 5, 5, 6))
                if number in (0, 6):
                    calls += [number]
                elif number == 2:
                    calls += role(rng.randrange(5), rng.randrange(5))
                elif number == 1:
                    calls += line(self.anything(rng, 2))
                elif asked < 12:
                    asked += 1
                    calls += {3: lambda row: can(*row), 4: under, 5: model}[number](self.anything(rng, 2 if number == 4 else 1))
            self.assertEqual(answers(calls), reference_answers(calls), calls)

    def anything(self, rng, how_many):
        """Mostly concepts, sometimes with a number taken out, put in or changed."""
        row = sum((random_concept(rng, rng.randrange(3), 4) for _ in range(how_many)), [])
        if rng.random() < 0.3:
            place = rng.randrange(len(row))
            row[place:place + rng.randrange(2)] = [rng.randrange(9) for _ in range(rng.randrange(2))]
        return row[:30]


if __name__ == "__main__":
    unittest.main()
