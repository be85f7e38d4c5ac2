"""A house of axioms and roles, and the calls on it."""

from rolehouse.concepts import atoms_of, split_concepts
from rolehouse.kinds import Kinds
from rolehouse.roles import ROLE_COUNT, all_roles_over

BEGINS = 0
LINE = 1
ROLE = 2
CAN = 3

WRONG_FORM = -1
TOO_MANY = -7

MOST_AXIOMS = 5
MOST_ATOMS = 5
MOST_ROLES_TOLD = 4


class UnknownCall(ValueError):
    pass


class House:
    def __init__(self):
        self.axioms = []
        self.told = []

    def begins(self):
        self.axioms = []
        self.told = []
        return 0

    # The axioms' atoms come first, in order, then those of the concepts.
    def atoms_with(self, concepts):
        row = []
        for first, second in self.axioms:
            row.append(first)
            row.append(second)
        return atoms_of(row + concepts)

    def line(self, numbers):
        concepts = split_concepts(numbers, 2)
        if concepts is None:
            return WRONG_FORM
        if len(self.axioms) >= MOST_AXIOMS or len(self.atoms_with(concepts)) > MOST_ATOMS:
            return TOO_MANY
        self.axioms.append((concepts[0], concepts[1]))
        return len(self.axioms) - 1

    def role(self, lower, upper):
        if lower >= ROLE_COUNT or upper >= ROLE_COUNT:
            return WRONG_FORM
        if len(self.told) >= MOST_ROLES_TOLD:
            return TOO_MANY
        self.told.append((lower, upper))
        return len(self.told) - 1

    def can(self, numbers):
        concepts = split_concepts(numbers, 1)
        if concepts is None:
            return WRONG_FORM
        atoms = self.atoms_with(concepts)
        if len(atoms) > MOST_ATOMS:
            return TOO_MANY
        kinds = Kinds(atoms, all_roles_over(self.told))
        truths = kinds.truths(concepts[0])
        return 1 if any([truths[kind] for kind in kinds.possible(self.axioms)]) else 0


def call_end(calls, start):
    if calls[start] == BEGINS:
        return start + 1
    if calls[start] == ROLE:
        return start + 3
    if calls[start] in (LINE, CAN):
        return start + 2 + calls[start + 1]
    number = calls[start]
    raise UnknownCall(f"no such call: {number}")


def answer(house, call):
    if call[0] == BEGINS:
        return [house.begins()]
    if call[0] == LINE:
        return [house.line(call[2:])]
    if call[0] == ROLE:
        return [house.role(call[1], call[2])]
    return [house.can(call[2:])]


def answers(calls):
    house = House()
    given = []
    start = 0
    while start < len(calls):
        end = call_end(calls, start)
        numbers = answer(house, calls[start:end])
        given.append(len(numbers))
        given.extend(numbers)
        start = end
    return given
