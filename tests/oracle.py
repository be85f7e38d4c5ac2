"""What the tests share: how calls are written, and the document's words followed step by step."""

import itertools
import unittest

from rolehouse.house import answers


def begins():
    return [0]


def line(*concepts):
    row = sum((list(concept) for concept in concepts), [])
    return [1, len(row)] + row


def role(lower, upper):
    return [2, lower, upper]


def can(*numbers):
    return [3, len(numbers)] + list(numbers)


def join(*calls):
    return sum(calls, [])


class ExpectTest(unittest.TestCase):
    def expect(self, calls, numbers):
        """Of the calls so far each is answered by one number, ahead of which stands its count."""
        given = answers(join(*calls))
        self.assertEqual(given[::2], [1] * len(numbers))
        self.assertEqual(given[1::2], numbers)


def turned(number):
    return {0: 2, 1: 3, 2: 0, 3: 1}[number]


class NotAConcept(Exception):
    pass


def read(row, place=0):
    """The concept at a place as nested tuples, and where it ends."""
    if place >= len(row) or row[place] > 7:
        raise NotAConcept
    first = row[place]
    place += 1
    node = [first]
    if first in (2, 6, 7):
        if place >= len(row) or row[place] > 3:
            raise NotAConcept
        node.append(row[place])
        place += 1
    for _ in range({3: 2, 4: 2, 5: 1, 6: 1, 7: 1}.get(first, 0)):
        part, place = read(row, place)
        node.append(part)
    return tuple(node), place


def read_all(row, how_many):
    concepts, place = [], 0
    for _ in range(how_many):
        concept, place = read(row, place)
        concepts.append(concept)
    if place != len(row):
        raise NotAConcept
    return concepts


def atoms(concepts):
    found = []
    for concept in concepts:
        if concept[0] in (2, 6, 7) and concept not in found:
            found.append(concept)
        parts = [part for part in concept[1:] if isinstance(part, tuple)]
        found += [atom for atom in atoms(parts) if atom not in found]
    return found


def under_pairs(told):
    """The pairs (lower, upper) of roles, by doing what the words say until nothing is new."""
    pairs = {(number, number) for number in range(4)} | set(told)
    while True:
        more = {(turned(a), turned(b)) for a, b in pairs}
        more |= {(a, d) for a, b in pairs for c, d in pairs if b == c}
        if more <= pairs:
            return pairs
        pairs |= more


def says(kind, concept):
    first = concept[0]
    if first in (2, 6, 7):
        return kind[concept]
    if first < 2:
        return first == 0
    if first == 3:
        return says(kind, concept[1]) and says(kind, concept[2])
    if first == 4:
        return says(kind, concept[1]) or says(kind, concept[2])
    return not says(kind, concept[1])


def lets(number, kind, other):
    for atom, held in kind.items():
        if atom[0] == 6 and atom[1] == number and not held and says(other, atom[2]):
            return False
        if atom[0] == 7 and atom[1] == number and held and not says(other, atom[2]):
            return False
    return True


def fits(number, kind, other, pairs):
    return all(
        lets(upper, kind, other) and lets(turned(upper), other, kind)
        for lower, upper in pairs if lower == number
    )


def borne_out(kind, kinds, pairs):
    for atom, held in kind.items():
        if atom[0] == 2 or held != (atom[0] == 6):
            continue
        if not any(says(other, atom[2]) == held and fits(atom[1], kind, other, pairs) for other in kinds):
            return False
    return True


def possible_kinds(axioms, pairs, row):
    kinds = [dict(zip(row, held)) for held in itertools.product((False, True), repeat=len(row))]
    kinds = [kind for kind in kinds if all(says(kind, b) or not says(kind, a) for a, b in axioms)]
    while True:
        left = [kind for kind in kinds if borne_out(kind, kinds, pairs)]
        if len(left) == len(kinds):
            return kinds
        kinds = left


class Model:
    """Things from 0 on, the names each has, and for roles 0 and 1 the pairs of things."""

    def __init__(self, names, steps):
        self.names = names
        self.ways = {0: steps[0], 1: steps[1]}
        self.ways[2] = {(b, a) for a, b in steps[0]}
        self.ways[3] = {(b, a) for a, b in steps[1]}

    def has(self, thing, concept):
        first = concept[0]
        if first < 2:
            return first == 0
        if first == 2:
            return concept[1] in self.names[thing]
        if first == 3:
            return self.has(thing, concept[1]) and self.has(thing, concept[2])
        if first == 4:
            return self.has(thing, concept[1]) or self.has(thing, concept[2])
        if first == 5:
            return not self.has(thing, concept[1])
        reached = [self.has(b, concept[2]) for a, b in self.ways[concept[1]] if a == thing]
        return any(reached) if first == 6 else all(reached)

    def keeps(self, axioms, told):
        return all(self.ways[a] <= self.ways[b] for a, b in told) and all(
            self.has(thing, second) or not self.has(thing, first)
            for first, second in axioms for thing in range(len(self.names))
        )

    def somewhere(self, concept):
        return any(self.has(thing, concept) for thing in range(len(self.names)))


def model_of_kinds(kinds, pairs):
    """One thing a kind, and a way by every role wherever that role or one under it fits."""
    steps = {0: set(), 1: set()}
    for a, kind in enumerate(kinds):
        for b, other in enumerate(kinds):
            for lower, upper in pairs:
                if fits(lower, kind, other, pairs):
                    steps[upper % 2].add((a, b) if upper < 2 else (b, a))
    names = [{atom[1] for atom, held in kind.items() if atom[0] == 2 and held} for kind in kinds]
    return Model(names, steps)


def small_models(names, things):
    """Every model of so many things with these names."""
    pairs = list(itertools.product(range(things), repeat=2))
    ways = [set(chosen) for size in range(len(pairs) + 1) for chosen in itertools.combinations(pairs, size)]
    labels = [set(chosen) for size in range(len(names) + 1) for chosen in itertools.combinations(names, size)]
    for chosen in itertools.product(labels, repeat=things):
        for first in ways:
            for second in ways:
                yield Model(list(chosen), {0: first, 1: second})


class Reference:
    def __init__(self):
        self.axioms = []
        self.told = []

    def row_with(self, concepts):
        return atoms([concept for pair in self.axioms for concept in pair] + concepts)

    def line(self, row):
        try:
            concepts = read_all(row, 2)
        except NotAConcept:
            return -1
        if len(self.axioms) == 5 or len(self.row_with(concepts)) > 5:
            return -7
        self.axioms.append(tuple(concepts))
        return len(self.axioms) - 1

    def role(self, lower, upper):
        if lower > 3 or upper > 3:
            return -1
        if len(self.told) == 4:
            return -7
        self.told.append((lower, upper))
        return len(self.told) - 1

    def can(self, row):
        try:
            concept = read_all(row, 1)[0]
        except NotAConcept:
            return -1
        found = self.row_with([concept])
        if len(found) > 5:
            return -7
        kinds = possible_kinds(self.axioms, under_pairs(self.told), found)
        return 1 if any(says(kind, concept) for kind in kinds) else 0


def reference_answers(calls):
    given, house, place = [], Reference(), 0
    while place < len(calls):
        number = calls[place]
        if number == 0:
            house = Reference()
            given += [1, 0]
            place += 1
        elif number == 2:
            given += [1, house.role(calls[place + 1], calls[place + 2])]
            place += 3
        else:
            end = place + 2 + calls[place + 1]
            row = calls[place + 2:end]
            given += [1, house.line(row) if number == 1 else house.can(row)]
            place = end
    return given


def random_concept(rng, depth, names=2):
    """A concept as a row, of the given depth at most, with few names so that things meet."""
    if depth == 0:
        return rng.choice([[0], [1], [2, rng.randrange(names)], [2, rng.randrange(names)]])
    first = rng.choice([2, 3, 4, 5, 6, 6, 7, 7])
    if first == 2:
        return [2, rng.randrange(names)]
    if first in (3, 4):
        return [first] + random_concept(rng, depth - 1, names) + random_concept(rng, depth - 1, names)
    if first == 5:
        return [5] + random_concept(rng, depth - 1, names)
    return [first, rng.randrange(4)] + random_concept(rng, depth - 1, names)
