"""Random lines: can against models themselves, and all answers against the document's words step by step."""

import random
import unittest

from rolehouse.house import answers
from tests.oracle import (
    atoms, begins, can, line, model_of_kinds, possible_kinds, random_concept, read_all, reference_answers, role,
    small_models, under_pairs,
)


def random_told(rng, axioms, roles):
    """Axioms as rows, pairs of roles, and a row to ask for, with at most 5 atoms in all."""
    while True:
        rows = [(random_concept(rng, rng.randrange(3)), random_concept(rng, rng.randrange(3))) for _ in range(axioms)]
        asked = random_concept(rng, rng.randrange(1, 4))
        flat = [row for pair in rows for row in pair] + [asked]
        if max(len(row) for row in flat) <= 15 and 2 <= len(atoms([read_all(row, 1)[0] for row in flat])) <= 5:
            told = [(rng.randrange(4), rng.randrange(4)) for _ in range(roles)]
            return rows, told, asked


def ask(rows, told, asked):
    calls = []
    for first, second in rows:
        calls += line(first, second)
    for pair in told:
        calls += role(*pair)
    return answers(calls + can(*asked))[-1]


class ModelsTest(unittest.TestCase):
    def check(self, rows, told, asked):
        axioms = [(read_all(first, 1)[0], read_all(second, 1)[0]) for first, second in rows]
        concept = read_all(asked, 1)[0]
        found = atoms([part for pair in axioms for part in pair] + [concept])
        number = ask(rows, told, asked)
        if number == 1:
            pairs = under_pairs(told)
            model = model_of_kinds(possible_kinds(axioms, pairs, found), pairs)
            self.assertTrue(model.keeps(axioms, told) and model.somewhere(concept), (rows, told, asked))
        else:
            self.assertEqual(number, 0)
            names = [atom[1] for atom in found if atom[0] == 2]
            for things in (1, 2):
                for model in small_models(names, things):
                    self.assertFalse(model.somewhere(concept) and model.keeps(axioms, told), (rows, told, asked))
        return number

    def test_a_model_is_there_just_where_can_says_so(self):
        rng = random.Random(1)
        counts = [0, 0]
        while min(counts) < 25:
            rows, told, asked = random_told(rng, rng.randrange(4), rng.randrange(4))
            if counts[ask(rows, told, asked)] < 200:
                counts[self.check(rows, told, asked)] += 1


class WordsTest(unittest.TestCase):
    def test_lines_of_what_is_right(self):
        rng = random.Random(2)
        for _ in range(250):
            rows, told, asked = random_told(rng, rng.randrange(1, 5), rng.randrange(5))
            calls = begins()
            for first, second in rows:
                calls += line(first, second)
            for pair in told:
                calls += role(*pair)
            for wanted in [asked, [5] + asked, [0]] + [row for pair in rows[:4] for row in pair]:
                calls += can(*wanted)
            self.assertEqual(answers(calls), reference_answers(calls), calls)

    def test_lines_of_anything(self):
        rng = random.Random(3)
        for _ in range(300):
            calls = []
            asked = 0
            for _ in range(rng.randrange(1, 40)):
                number = rng.choice((1, 1, 1, 1, 2, 2, 3, 3, 0)) if rng.random() < 0.3 else rng.choice((1, 2, 3))
                if number == 0:
                    calls += begins()
                elif number == 2:
                    calls += role(rng.randrange(5), rng.randrange(5))
                elif number == 1:
                    calls += line(self.anything(rng, 2))
                elif asked < 12:
                    asked += 1
                    calls += can(*self.anything(rng, 1))
            self.assertEqual(answers(calls), reference_answers(calls), calls)

    def anything(self, rng, how_many):
        """Mostly concepts, sometimes with a number taken out, put in or changed."""
        row = sum((random_concept(rng, rng.randrange(3), 4) for _ in range(how_many)), [])
        if rng.random() < 0.3:
            place = rng.randrange(len(row))
            row[place:place + rng.randrange(2)] = [rng.randrange(9) for _ in range(rng.randrange(2))]
        return row[:30]


if __name__ == "__main__":
    unittest.main()
