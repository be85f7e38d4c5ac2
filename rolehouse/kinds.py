"""Kinds of things: a kind is a number whose bit k says whether atom k holds."""

from rolehouse.concepts import EACH, NAMED, SOME, bit_is_set, holds, parts_of
from rolehouse.roles import ROLE_COUNT, turned


def bits_of(flags):
    return sum([1 << place for place, flag in enumerate(flags) if flag])


# A kind owes an atom 6 that holds in it, or an atom 7 that doesn't, another kind that shows it.
# A kind shows an atom 6 if what's in it holds there, an atom 7 if that doesn't.
# What a kind doesn't owe, no kind may show to which its role leads: so these two words are enough.
class Kinds:
    def __init__(self, atoms, over, axioms):
        self.atoms = atoms
        self.over = over
        self.every_kind = list(range(1 << len(atoms)))
        self.some_bits = bits_of([atom[0] == SOME for atom in atoms])
        self.each_bits = bits_of([atom[0] == EACH for atom in atoms])
        self.role_bits = [self.bits_by_role(role) for role in range(ROLE_COUNT)]
        self.shown_bits = self.all_shown_bits()
        # The kinds that can be there, the lowest first.
        self.possible = self.largest_borne_out(self.keeping(axioms))

    def bits_by_role(self, role):
        return bits_of([atom[0] in (SOME, EACH) and atom[1] == role for atom in self.atoms])

    def all_shown_bits(self):
        shown = [0 for kind in self.every_kind]
        for place, atom in enumerate(self.atoms):
            if atom[0] in (SOME, EACH):
                for kind, value in enumerate(self.truths(atom[2:])):
                    if value == (atom[0] == SOME):
                        shown[kind] |= 1 << place
        return shown

    # For each kind whether the concept holds in it.
    def truths(self, concept):
        parts = parts_of(concept)
        return [holds(parts, self.atoms, kind) for kind in self.every_kind]

    def owed_bits(self, kind):
        return (kind & self.some_bits) | (~kind & self.each_bits)

    def lets(self, role, kind, other):
        return (self.shown_bits[other] & self.role_bits[role] & ~self.owed_bits(kind)) == 0

    def fits(self, role, kind, other):
        for upper in self.over[role]:
            if not self.lets(upper, kind, other) or not self.lets(turned(upper), other, kind):
                return False
        return True

    def owed_places(self, kind):
        owed = self.owed_bits(kind)
        return [place for place in range(len(self.atoms)) if bit_is_set(owed, place)]

    # Gives the first of the kept kinds that bears the atom out, or None.
    def bearer(self, kind, place, kept):
        role = self.atoms[place][1]
        for other in kept:
            if bit_is_set(self.shown_bits[other], place) and self.fits(role, kind, other):
                return other
        return None

    def borne_out(self, kind, kept):
        for place in self.owed_places(kind):
            if self.bearer(kind, place, kept) is None:
                return False
        return True

    def keeping(self, axioms):
        kept = list(self.every_kind)
        for first, second in axioms:
            firsts = self.truths(first)
            seconds = self.truths(second)
            kept = [kind for kind in kept if seconds[kind] or not firsts[kind]]
        return kept

    def largest_borne_out(self, kinds):
        kept = list(kinds)
        before = len(kept) + 1
        while len(kept) < before:
            before = len(kept)
            kept = [kind for kind in kept if self.borne_out(kind, kept)]
        return kept

    # The kinds that can be there in which the concept holds, the lowest first.
    def having(self, concept):
        truths = self.truths(concept)
        return [kind for kind in self.possible if truths[kind]]

    # For each owed atom, in order, its role and the lowest kind that bears it out.
    def steps(self, kind):
        return [(self.atoms[place][1], self.bearer(kind, place, self.possible)) for place in self.owed_places(kind)]

    def names_sum(self, kind):
        names = [atom[1] for place, atom in enumerate(self.atoms) if atom[0] == NAMED and bit_is_set(kind, place)]
        return sum([1 << name for name in names])

    # A name that isn't among the atoms may be had by a thing of any kind, and lacked as well.
    def allows(self, kind, name, had):
        if (NAMED, name) not in self.atoms:
            return True
        return bit_is_set(kind, self.atoms.index((NAMED, name))) == had

    def name_under(self, lower, upper):
        if lower == upper:
            return True
        for kind in self.possible:
            if self.allows(kind, lower, True) and self.allows(kind, upper, False):
                return False
        return True
