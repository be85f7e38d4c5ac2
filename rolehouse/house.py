"""A house of axioms and roles, and the calls on it."""

from rolehouse.concepts import BOTH, HIGHEST_SIGN, OPPOSITE, atoms_of, split_concepts
from rolehouse.kinds import Kinds
from rolehouse.roles import ROLE_COUNT, all_roles_over
from rolehouse.told import told_model

BEGINS = 0
LINE = 1
ROLE = 2
CAN = 3
UNDER = 4
MODEL = 5
ROLES = 6
NAMES = 7

WRONG_FORM = -1
NO_MODEL = -6
TOO_MANY = -7

MOST_AXIOMS = 5
MOST_ATOMS = 5
MOST_ROLES_TOLD = 4


class UnknownCall(ValueError):
    pass


class House:
    def __init__(self):
        self.axioms = []
        self.told = []

    # The axioms' atoms come first, in order, then those of the concepts.
    def atoms_with(self, concepts):
        row = []
        for first, second in self.axioms:
            row.append(first)
            row.append(second)
        return atoms_of(row + concepts)

    # Gives 0 if nothing speaks against the concepts; they are None if their row has the wrong form.
    def refusal(self, concepts):
        if concepts is None:
            return WRONG_FORM
        if len(self.atoms_with(concepts)) > MOST_ATOMS:
            return TOO_MANY
        return 0

    def kinds_with(self, concepts):
        return Kinds(self.atoms_with(concepts), all_roles_over(self.told), self.axioms)

    def begins(self):
        self.axioms = []
        self.told = []
        return 0

    def line(self, numbers):
        concepts = split_concepts(numbers, 2)
        refused = self.refusal(concepts)
        if refused < 0:
            return refused
        if len(self.axioms) >= MOST_AXIOMS:
            return TOO_MANY
        self.axioms.append((concepts[0], concepts[1]))
        return len(self.axioms) - 1

    def role(self, lower, upper):
        if lower >= ROLE_COUNT or upper >= ROLE_COUNT:
            return WRONG_FORM
        if len(self.told) >= MOST_ROLES_TOLD:
            return TOO_MANY
        self.told.append((lower, upper))
        return len(self.told) - 1

    def can(self, numbers):
        concepts = split_concepts(numbers, 1)
        refused = self.refusal(concepts)
        if refused < 0:
            return refused
        return 1 if self.kinds_with(concepts).having(concepts[0]) else 0

    def under(self, numbers):
        concepts = split_concepts(numbers, 2)
        refused = self.refusal(concepts)
        if refused < 0:
            return refused
        apart = (BOTH,) + concepts[0] + (OPPOSITE,) + concepts[1]
        return 0 if self.kinds_with(concepts).having(apart) else 1

    def model(self, numbers):
        concepts = split_concepts(numbers, 1)
        refused = self.refusal(concepts)
        if refused < 0:
            return [refused]
        kinds = self.kinds_with(concepts)
        found = kinds.having(concepts[0])
        return told_model(kinds, found[0]) if found else [NO_MODEL]

    def roles(self):
        numbers = [ROLE_COUNT]
        for uppers in all_roles_over(self.told):
            numbers.extend([1 if role in uppers else 0 for role in range(ROLE_COUNT)])
        return numbers

    def names(self):
        kinds = self.kinds_with([])
        every_name = list(range(HIGHEST_SIGN + 1))
        numbers = [1 if kinds.possible else 0]
        for lower in every_name:
            numbers.extend([1 if kinds.name_under(lower, upper) else 0 for upper in every_name])
        return numbers


def call_end(calls, start):
    number = calls[start]
    if number in (BEGINS, ROLES, NAMES):
        return start + 1
    if number == ROLE:
        return start + 3
    if number in (LINE, CAN, UNDER, MODEL):
        return start + 2 + calls[start + 1]
    raise UnknownCall(f"no such call: {number}")


def answer(house, call):
    if call[0] == BEGINS:
        return [house.begins()]
    if call[0] == LINE:
        return [house.line(call[2:])]
    if call[0] == ROLE:
        return [house.role(call[1], call[2])]
    if call[0] == CAN:
        return [house.can(call[2:])]
    if call[0] == UNDER:
        return [house.under(call[2:])]
    if call[0] == MODEL:
        return house.model(call[2:])
    if call[0] == ROLES:
        return house.roles()
    return house.names()


def answers(calls):
    house = House()
    given = []
    start = 0
    while start < len(calls):
        end = call_end(calls, start)
        numbers = answer(house, calls[start:end])
        given.append(len(numbers))
        given.extend(numbers)
        start = end
    return given
