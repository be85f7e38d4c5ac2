"""Kinds of things: a kind is a number whose bit k says whether atom k holds."""

from rolehouse.concepts import EACH, SOME, holds, parts_of
from rolehouse.roles import ROLE_COUNT, turned


def bits_of(flags):
    return sum([1 << place for place, flag in enumerate(flags) if flag])


# A kind owes an atom 6 that holds in it, or an atom 7 that doesn't, another kind that shows it.
# A kind shows an atom 6 if what's in it holds there, an atom 7 if that doesn't.
# What a kind doesn't owe, no kind may show to which its role leads: so these two words are enough.
class Kinds:
    def __init__(self, atoms, over):
        self.atoms = atoms
        self.over = over
        self.every_kind = list(range(1 << len(atoms)))
        self.some_bits = bits_of([atom[0] == SOME for atom in atoms])
        self.each_bits = bits_of([atom[0] == EACH for atom in atoms])
        self.role_bits = [self.bits_by_role(role) for role in range(ROLE_COUNT)]
        self.shown_bits = self.all_shown_bits()

    def bits_by_role(self, role):
        return bits_of([atom[0] in (SOME, EACH) and atom[1] == role for atom in self.atoms])

    def all_shown_bits(self):
        shown = [0 for kind in self.every_kind]
        for place, atom in enumerate(self.atoms):
            if atom[0] in (SOME, EACH):
                for kind, value in enumerate(self.truths(atom[2:])):
                    if value == (atom[0] == SOME):
                        shown[kind] |= 1 << place
        return shown

    # For each kind whether the concept holds in it.
    def truths(self, concept):
        parts = parts_of(concept)
        return [holds(parts, self.atoms, kind) for kind in self.every_kind]

    def owed_bits(self, kind):
        return (kind & self.some_bits) | (~kind & self.each_bits)

    def lets(self, role, kind, other):
        return (self.shown_bits[other] & self.role_bits[role] & ~self.owed_bits(kind)) == 0

    def fits(self, role, kind, other):
        for upper in self.over[role]:
            if not self.lets(upper, kind, other) or not self.lets(turned(upper), other, kind):
                return False
        return True

    def has_bearer(self, kind, place, kept):
        role = self.atoms[place][1]
        for other in kept:
            if (self.shown_bits[other] >> place) & 1 == 1 and self.fits(role, kind, other):
                return True
        return False

    def borne_out(self, kind, kept):
        owed = self.owed_bits(kind)
        for place in range(len(self.atoms)):
            if (owed >> place) & 1 == 1 and not self.has_bearer(kind, place, kept):
                return False
        return True

    def keeping(self, axioms):
        kept = list(self.every_kind)
        for first, second in axioms:
            firsts = self.truths(first)
            seconds = self.truths(second)
            kept = [kind for kind in kept if seconds[kind] or not firsts[kind]]
        return kept

    # The kinds that can be there, the lowest first.
    def possible(self, axioms):
        kept = self.keeping(axioms)
        before = len(kept) + 1
        while len(kept) < before:
            before = len(kept)
            kept = [kind for kind in kept if self.borne_out(kind, kept)]
        return kept
