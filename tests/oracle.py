"""What the tests share: how calls are written, and the document's words followed step by step."""

import itertools
import unittest

from rolehouse.house import answers


LARGEST = 4294967295
A, B, C, D = [2, 0], [2, 1], [2, 2], [2, 3]


def no(concept):
    return [5] + concept


def both(first, *others):
    return [3] + first + both(*others) if others else first


def either(first, second):
    return [4] + first + second


def some(number, concept):
    return [6, number] + concept


def each(number, concept):
    return [7, number] + concept


# Rows that aren't just one concept, and rows that aren't just two: cut off, with a number left over, or a number too high.
NOT_ONE = [
    [], [2], [3], [3, 0], [3, 0, 2], [4], [4, 2, 0], [5], [6], [6, 0], [6, 0, 2], [7], [7, 3], [7, 3, 5], [5, 5, 5],
    [0, 0], [1, 0], [2, 0, 0], [3, 0, 0, 0], [5, 0, 1], [6, 0, 0, 0], [7, 0, 2, 0, 0], [2, 0, 2, 1],
    [2, 4], [2, LARGEST], [6, 4, 0], [7, 4, 0], [6, LARGEST, 0], [7, LARGEST, 0], [8], [8, 0], [9, 0, 0], [LARGEST],
    [3, 0, 8], [3, 8, 0], [4, 0, 2, 4], [5, 8], [5, 2, 4], [6, 0, 8], [6, 0, 2, 4], [7, 1, 6, 4, 0], [7, 1, LARGEST],
]
NOT_TWO = [
    [], [0], [2], [2, 0], [3, 0, 0], [3, 0, 2, 1], [5, 0], [6, 0, 0], [7, 1, 2, 0],
    [0, 0, 0], [2, 0, 2, 1, 0], [0, 0, 2], [0, 2], [0, 3, 0], [0, 3], [0, 4, 2, 1], [0, 5], [0, 6],
    [0, 6, 1], [0, 7], [0, 7, 0], [0, 7, 0, 2], [0, 2, 0, 1], [3, 0, 0, 0, 0], [4, 0], [5, 0, 0, 0],
    [2, 4, 0], [0, 2, 4], [0, 2, LARGEST], [6, 4, 0, 0], [0, 6, 4, 0], [0, 7, 4, 0], [0, 6, LARGEST, 0],
    [0, 7, LARGEST, 0], [0, 6, 0, 2, 4], [0, 7, 0, 6, 4, 0], [8, 0], [0, 8], [0, LARGEST], [LARGEST, 0],
    [LARGEST, LARGEST], [9, 0, 0], [0, 5, 8], [0, 3, 0, 8], [0, 6, 0, 8], [8], [LARGEST],
]
SIX_ATOMS = both(A, B, C, D, some(0, [0]), each(0, [0]))


def with_row(number, concepts):
    row = sum((list(concept) for concept in concepts), [])
    return [number, len(row)] + row


def begins():
    return [0]


def line(*concepts):
    return with_row(1, concepts)


def role(lower, upper):
    return [2, lower, upper]


def can(*numbers):
    return with_row(3, [numbers])


def under(*concepts):
    return with_row(4, concepts)


def model(*concepts):
    return with_row(5, concepts)


def roles():
    return [6]


def names():
    return [7]


def join(*calls):
    return sum(calls, [])


def split_answers(given):
    """For each call its numbers; a count that goes beyond the end is a fault."""
    lists, place = [], 0
    while place < len(given):
        end = place + 1 + given[place]
        if end > len(given) or given[place] < 1:
            raise AssertionError(f"wrong count at {place}: {given}")
        lists.append(given[place + 1:end])
        place = end
    return lists


class ExpectTest(unittest.TestCase):
    def expect(self, calls, expected):
        """For each call the list that's answered, or the one number."""
        lists = [item if isinstance(item, list) else [item] for item in expected]
        self.assertEqual(split_answers(answers(join(*calls))), lists)

    def expect_behind(self, told, asked, expected):
        """What's told (lines and roles) is taken; behind it each call that asks is answered as expected."""
        counts = {1: 0, 2: 0}
        numbers = []
        for call in told:
            numbers.append(counts[call[0]])
            counts[call[0]] += 1
        self.expect(list(told) + list(asked), numbers + list(expected))


def turned(number):
    return {0: 2, 1: 3, 2: 0, 3: 1}[number]


class NotAConcept(Exception):
    pass


def read(row, place=0):
    """The concept at a place as nested tuples, and where it ends."""
    if place >= len(row) or row[place] > 7:
        raise NotAConcept
    first = row[place]
    place += 1
    node = [first]
    if first in (2, 6, 7):
        if place >= len(row) or row[place] > 3:
            raise NotAConcept
        node.append(row[place])
        place += 1
    for _ in range({3: 2, 4: 2, 5: 1, 6: 1, 7: 1}.get(first, 0)):
        part, place = read(row, place)
        node.append(part)
    return tuple(node), place


def read_all(row, how_many):
    concepts, place = [], 0
    for _ in range(how_many):
        concept, place = read(row, place)
        concepts.append(concept)
    if place != len(row):
        raise NotAConcept
    return concepts


def atoms(concepts):
    found = []
    for concept in concepts:
        if concept[0] in (2, 6, 7) and concept not in found:
            found.append(concept)
        parts = [part for part in concept[1:] if isinstance(part, tuple)]
        found += [atom for atom in atoms(parts) if atom not in found]
    return found


def under_pairs(told):
    """The pairs (lower, upper) of roles, by doing what the words say until nothing is new."""
    pairs = {(number, number) for number in range(4)} | set(told)
    while True:
        more = {(turned(a), turned(b)) for a, b in pairs}
        more |= {(a, d) for a, b in pairs for c, d in pairs if b == c}
        if more <= pairs:
            return pairs
        pairs |= more


def says(kind, concept):
    first = concept[0]
    if first in (2, 6, 7):
        return kind[concept]
    if first < 2:
        return first == 0
    if first == 3:
        return says(kind, concept[1]) and says(kind, concept[2])
    if first == 4:
        return says(kind, concept[1]) or says(kind, concept[2])
    return not says(kind, concept[1])


def lets(number, kind, other):
    for atom, held in kind.items():
        if atom[0] == 6 and atom[1] == number and not held and says(other, atom[2]):
            return False
        if atom[0] == 7 and atom[1] == number and held and not says(other, atom[2]):
            return False
    return True


def fits(number, kind, other, pairs):
    return all(
        lets(upper, kind, other) and lets(turned(upper), other, kind)
        for lower, upper in pairs if lower == number
    )


def borne_out(kind, kinds, pairs):
    for atom, held in kind.items():
        if atom[0] == 2 or held != (atom[0] == 6):
            continue
        if not any(says(other, atom[2]) == held and fits(atom[1], kind, other, pairs) for other in kinds):
            return False
    return True


def possible_kinds(axioms, pairs, row):
    kinds = [dict(zip(row, held)) for held in itertools.product((False, True), repeat=len(row))]
    kinds = [kind for kind in kinds if all(says(kind, b) or not says(kind, a) for a, b in axioms)]
    while True:
        left = [kind for kind in kinds if borne_out(kind, kinds, pairs)]
        if len(left) == len(kinds):
            return kinds
        kinds = left


class Model:
    """Things from 0 on, the names each has, and for roles 0 and 1 the pairs of things."""

    def __init__(self, names, steps):
        self.names = names
        self.ways = {0: steps[0], 1: steps[1]}
        self.ways[2] = {(b, a) for a, b in steps[0]}
        self.ways[3] = {(b, a) for a, b in steps[1]}

    def has(self, thing, concept):
        first = concept[0]
        if first < 2:
            return first == 0
        if first == 2:
            return concept[1] in self.names[thing]
        if first == 3:
            return self.has(thing, concept[1]) and self.has(thing, concept[2])
        if first == 4:
            return self.has(thing, concept[1]) or self.has(thing, concept[2])
        if first == 5:
            return not self.has(thing, concept[1])
        reached = [self.has(b, concept[2]) for a, b in self.ways[concept[1]] if a == thing]
        return any(reached) if first == 6 else all(reached)

    def keeps(self, axioms, told):
        return all(self.ways[a] <= self.ways[b] for a, b in told) and all(
            self.has(thing, second) or not self.has(thing, first)
            for first, second in axioms for thing in range(len(self.names))
        )

    def somewhere(self, concept):
        return any(self.has(thing, concept) for thing in range(len(self.names)))


def model_of_kinds(kinds, pairs):
    """One thing a kind, and a way by every role wherever that role or one under it fits."""
    steps = {0: set(), 1: set()}
    for a, kind in enumerate(kinds):
        for b, other in enumerate(kinds):
            for lower, upper in pairs:
                if fits(lower, kind, other, pairs):
                    steps[upper % 2].add((a, b) if upper < 2 else (b, a))
    names = [{atom[1] for atom, held in kind.items() if atom[0] == 2 and held} for kind in kinds]
    return Model(names, steps)


def small_models(names, things):
    """Every model of so many things with these names."""
    pairs = list(itertools.product(range(things), repeat=2))
    ways = [set(chosen) for size in range(len(pairs) + 1) for chosen in itertools.combinations(pairs, size)]
    labels = [set(chosen) for size in range(len(names) + 1) for chosen in itertools.combinations(names, size)]
    for chosen in itertools.product(labels, repeat=things):
        for first in ways:
            for second in ways:
                yield Model(list(chosen), {0: first, 1: second})


def number_of(kind):
    return sum(2 ** place for place, held in enumerate(kind.values()) if held)


def lowest(kinds):
    return min(kinds, key=number_of)


def told_numbers(concept, kinds, pairs):
    """The told model as model answers it, or None; kinds are all that can be there."""
    having = [kind for kind in kinds if says(kind, concept)]
    if not having:
        return None
    things, ways, place = [lowest(having)], {}, 0
    while place < len(things):
        kind = things[place]
        for atom, held in kind.items():
            if atom[0] == 2 or held != (atom[0] == 6):
                continue
            other = lowest([
                other for other in kinds if says(other, atom[2]) == held and fits(atom[1], kind, other, pairs)
            ])
            if other not in things:
                things.append(other)
            target = things.index(other)
            for lower, upper in pairs:
                if lower == atom[1]:
                    ways[place, upper, target] = ways[target, turned(upper), place] = True
        place += 1
    numbers = [len(things)]
    for place, kind in enumerate(things):
        numbers.append(sum(2 ** atom[1] for atom, held in kind.items() if atom[0] == 2 and held))
        own = [(number, target) for number in (0, 1) for target in range(len(things)) if (place, number, target) in ways]
        numbers += [len(own)] + [number for way in own for number in way]
    return numbers


def read_model(numbers):
    """What model answers, as a Model; every number is used just once."""
    left = list(numbers)
    things = left.pop(0)
    had, steps = [], {0: set(), 1: set()}
    for thing in range(things):
        total = left.pop(0)
        had.append({name for name in range(4) if total >> name & 1})
        ways = left.pop(0)
        for _ in range(ways):
            number, target = left.pop(0), left.pop(0)
            if target >= things or (thing, target) in steps[number]:
                raise AssertionError(f"a way to nowhere, or told twice: {numbers}")
            steps[number].add((thing, target))
    if left:
        raise AssertionError(f"left over {left}: {numbers}")
    return Model(had, steps)


class Reference:
    def __init__(self):
        self.axioms = []
        self.told = []

    def row_with(self, concepts):
        return atoms([concept for pair in self.axioms for concept in pair] + concepts)

    def kinds_with(self, concepts):
        return possible_kinds(self.axioms, under_pairs(self.told), self.row_with(concepts))

    def begins(self):
        self.axioms, self.told = [], []
        return [0]

    def line(self, concepts):
        if len(self.axioms) == 5:
            return [-7]
        self.axioms.append(tuple(concepts))
        return [len(self.axioms) - 1]

    def role(self, lower, upper):
        if lower > 3 or upper > 3:
            return [-1]
        if len(self.told) == 4:
            return [-7]
        self.told.append((lower, upper))
        return [len(self.told) - 1]

    def can(self, concepts):
        return [int(any(says(kind, concepts[0]) for kind in self.kinds_with(concepts)))]

    def under(self, concepts):
        return [int(all(says(kind, concepts[1]) for kind in self.kinds_with(concepts) if says(kind, concepts[0])))]

    def model(self, concepts):
        return told_numbers(concepts[0], self.kinds_with(concepts), under_pairs(self.told)) or [-6]

    def roles(self):
        pairs = under_pairs(self.told)
        return [4] + [int(pair in pairs) for pair in itertools.product(range(4), repeat=2)]

    def names(self):
        """With each name as an atom, though these may then be more than 5."""
        kinds = self.kinds_with([(2, name) for name in range(4)])
        numbers = [int(len(kinds) > 0)]
        for first, second in itertools.product(range(4), repeat=2):
            numbers.append(int(all(kind[2, second] for kind in kinds if kind[2, first])))
        return numbers

    def row_call(self, number, row):
        try:
            concepts = read_all(row, {1: 2, 3: 1, 4: 2, 5: 1}[number])
        except NotAConcept:
            return [-1]
        if len(self.row_with(concepts)) > 5:
            return [-7]
        return {1: self.line, 3: self.can, 4: self.under, 5: self.model}[number](concepts)


def reference_answers(calls):
    given, house, place = [], Reference(), 0
    while place < len(calls):
        number = calls[place]
        if number in (0, 6, 7):
            numbers = {0: house.begins, 6: house.roles, 7: house.names}[number]()
            place += 1
        elif number == 2:
            numbers = house.role(calls[place + 1], calls[place + 2])
            place += 3
        else:
            end = place + 2 + calls[place + 1]
            numbers = house.row_call(number, calls[place + 2:end])
            place = end
        given += [len(numbers)] + numbers
    return given


def random_concept(rng, depth, names=2):
    """A concept as a row, of the given depth at most, with few names so that things meet."""
    if depth == 0:
        return rng.choice([[0], [1], [2, rng.randrange(names)], [2, rng.randrange(names)]])
    first = rng.choice([2, 3, 4, 5, 6, 6, 7, 7])
    if first == 2:
        return [2, rng.randrange(names)]
    if first in (3, 4):
        return [first] + random_concept(rng, depth - 1, names) + random_concept(rng, depth - 1, names)
    if first == 5:
        return [5] + random_concept(rng, depth - 1, names)
    return [first, rng.randrange(4)] + random_concept(rng, depth - 1, names)
