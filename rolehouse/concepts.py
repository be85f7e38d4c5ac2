"""Concepts as rows of numbers: where they end, what stands in them, and when they hold."""

EVERYTHING = 0
NOTHING = 1
NAMED = 2
BOTH = 3
EITHER = 4
OPPOSITE = 5
SOME = 6
EACH = 7

# How many concepts stand within one, by its first number.
PART_COUNTS = (0, 0, 0, 2, 2, 1, 1, 1)
# NAMED, SOME and EACH, behind which a name or a role stands.
WITH_A_SIGN = (2, 6, 7)
# Names and roles end at the same number.
HIGHEST_SIGN = 3


# Gives 0 where no concept can begin, so that a caller's loop stops there.
def head_length(numbers, start):
    if start >= len(numbers) or numbers[start] > EACH:
        return 0
    if numbers[start] not in WITH_A_SIGN:
        return 1
    if start + 1 >= len(numbers) or numbers[start + 1] > HIGHEST_SIGN:
        return 0
    return 2


def concept_end(numbers, start):
    place = start
    wanted = 1
    while wanted > 0:
        length = head_length(numbers, place)
        if length == 0:
            return None
        wanted += PART_COUNTS[numbers[place]] - 1
        place += length
    return place


# Gives None if the row isn't just so many concepts.
def split_concepts(numbers, how_many):
    concepts = []
    place = 0
    for turn in range(how_many):
        end = concept_end(numbers, place)
        if end is None:
            return None
        concepts.append(tuple(numbers[place:end]))
        place = end
    if place < len(numbers):
        return None
    return concepts


# The concept itself comes first, then all within it from left to right.
def parts_of(concept):
    parts = []
    place = 0
    while place < len(concept):
        parts.append(concept[place:concept_end(concept, place)])
        place += head_length(concept, place)
    return parts


def atoms_of(concepts):
    atoms = []
    for concept in concepts:
        for part in parts_of(concept):
            if part[0] in WITH_A_SIGN and part not in atoms:
                atoms.append(part)
    return atoms


def bit_is_set(number, place):
    return (number >> place) & 1 == 1


def part_holds(part, within, atoms, kind):
    first = part[0]
    if first == EVERYTHING:
        return True
    if first == NOTHING:
        return False
    if first == BOTH:
        return within[0] and within[1]
    if first == EITHER:
        return within[0] or within[1]
    if first == OPPOSITE:
        return not within[0]
    # What stands within an atom 6 or 7 is said of other things, so only its own bit counts.
    return bit_is_set(kind, atoms.index(part))


# From right to left the parts of a part are always known before it.
def holds(parts, atoms, kind):
    known = []
    for part in reversed(parts):
        rest = len(known) - PART_COUNTS[part[0]]
        value = part_holds(part, known[rest:], atoms, kind)
        known = known[:rest]
        known.append(value)
    return known[0]
