"""Kinds of elements: which atoms hold in an element, and which kinds can be in a model.

As a number, bit k of a kind is 1 if atom k holds. A group of kinds is a number, too, in which
bit n is 1 if kind n belongs to it: so a concept becomes the group of the kinds in which it
holds, and the constructs between concepts become the operators between bits.
"""

from conceptaxioms.concepts import TOP, BOTTOM, NAME, BOTH, EITHER, WITHOUT, SOME, ONLY, PARTS
from conceptaxioms.concepts import atoms_of, concept_at, part_starts


def first_kind(group):
    """Return the first kind of a group that is not empty."""
    kind = 0
    while ((group >> kind) & 1) == 0:
        kind += 1
    return kind


class Restriction:
    """An atom that begins with 6 or 7, seen as a demand for a related element.

    A 6 demands an element with the inner concept where it holds, and a 7 demands one without
    it where it does not hold. In both cases, where there is no demand, no such element is
    permitted. Hence one rule does for both.
    """

    def __init__(self, role, place, demanding, wanted):
        self.role = role
        self.place = place
        self.demanding = demanding
        self.wanted = wanted

    def demands(self, kind):
        """Tell whether an element of the kind must be related to one of the wanted kinds."""
        return ((kind >> self.place) & 1) == self.demanding


class Kinds:
    """The kinds over the atoms of some concepts."""

    def __init__(self, concepts):
        self.atoms = atoms_of(concepts)
        self.total = 1 << len(self.atoms)
        self.every = (1 << self.total) - 1
        self.restrictions = self.read_restrictions()
        # Kept, as the search for the possible kinds asks for the same ones again and again.
        self.needs = [self.needs_of(kind) for kind in range(self.total)]

    def read_restrictions(self):
        """Return the restrictions among the atoms, in order."""
        restrictions = []
        for place, atom in enumerate(self.atoms):
            if atom[0] == SOME:
                inner = self.having(atom[2:])
                restrictions.append(Restriction(atom[1], place, 1, inner))
            if atom[0] == ONLY:
                inner = self.having(atom[2:])
                restrictions.append(Restriction(atom[1], place, 0, self.every ^ inner))
        return restrictions

    def having(self, concept):
        """Return the group of the kinds in which the concept holds."""
        groups = []
        # From right to left, so that what stands inside a concept is known ahead of it.
        for start in reversed(part_starts(concept)):
            inner = []
            while len(inner) < PARTS[concept[start]]:
                inner.append(groups.pop())
            groups.append(self.joined(concept_at(concept, start), inner))
        return groups.pop()

    def joined(self, concept, inner):
        """Return the group of a concept, where inner are the groups of its parts."""
        if concept[0] == TOP:
            return self.every
        if concept[0] == BOTTOM:
            return 0
        if concept[0] == BOTH:
            return inner[0] & inner[1]
        if concept[0] == EITHER:
            return inner[0] | inner[1]
        if concept[0] == WITHOUT:
            return self.every ^ inner[0]
        return self.having_atom(self.atoms.index(concept))

    def names_of(self, kind):
        """Return the names that an element of the kind has, as the sum of 2^a for each name a."""
        told = 0
        for place, atom in enumerate(self.atoms):
            if atom[0] == NAME and ((kind >> place) & 1) == 1:
                told += 1 << atom[1]
        return told

    def having_atom(self, place):
        """Return the group of the kinds in which the atom at this place holds."""
        group = 0
        for kind in range(self.total):
            if ((kind >> place) & 1) == 1:
                group |= 1 << kind
        return group

    def permitted(self, kind, role):
        """Return the group of the kinds that the kind permits as successors by the role."""
        group = self.every
        for restriction in self.restrictions:
            if restriction.role == role and not restriction.demands(kind):
                group &= self.every ^ restriction.wanted
        return group

    def needs_of(self, kind):
        """Return, for each demand of the kind, its role and the group that supports it."""
        needs = []
        for restriction in self.restrictions:
            if restriction.demands(kind):
                group = self.permitted(kind, restriction.role) & restriction.wanted
                needs.append((restriction.role, group))
        return needs

    def obeying(self, axioms):
        """Return the group of the kinds in which each axiom's first concept brings the second."""
        group = self.every
        for axiom in axioms:
            group &= (self.every ^ self.having(axiom[0])) | self.having(axiom[1])
        return group

    def supported(self, group):
        """Return those kinds of the group whose demands are all supported within the group."""
        kept = 0
        for kind in range(self.total):
            met = all([(need & group) != 0 for role, need in self.needs[kind]])
            if ((group >> kind) & 1) == 1 and met:
                kept |= 1 << kind
        return kept

    def possible(self, axioms):
        """Return the group of the possible kinds: the largest that obeys and supports itself."""
        group = self.obeying(axioms)
        kept = self.supported(group)
        # A kind that goes may have supported another one, so one pass is not enough.
        while kept != group:
            group = kept
            kept = self.supported(group)
        return group
