"""The operations on one store of axioms. Each gives back the numbers of its answer."""

from conceptaxioms.concepts import atoms_of, read_concepts
from conceptaxioms.kinds import Kinds

MOST_AXIOMS = 6
MOST_ATOMS = 6


class NoSuchAxiom(ValueError):
    """No axiom has this index."""


class TooMany(ValueError):
    """There would be more axioms or atoms than are allowed."""


class Session:
    """The axioms in order, each a tuple of two concepts, and what is asked of them."""

    def __init__(self):
        self.axioms = []

    def begins(self):
        """Remove all axioms."""
        self.axioms = []
        return [0]

    def line(self, numbers):
        """Add the axiom of two concepts and give back its index."""
        concepts = read_concepts(numbers, 2)
        if len(self.axioms) >= MOST_AXIOMS:
            raise TooMany("too many axioms")
        self.check_atoms(concepts)
        self.axioms.append(tuple(concepts))
        return [len(self.axioms) - 1]

    def drop(self, index):
        """Remove the axiom with this index and give back how many are left."""
        if index >= len(self.axioms):
            raise NoSuchAxiom("no such axiom")
        self.axioms.pop(index)
        return [len(self.axioms)]

    def can(self, numbers):
        """Give back 1 if the concept can have an element, otherwise 0."""
        concepts = read_concepts(numbers, 1)
        self.check_atoms(concepts)
        kinds = Kinds(self.with_axioms(concepts))
        found = kinds.possible(self.axioms) & kinds.having(concepts[0])
        return [1 if found != 0 else 0]

    def under(self, numbers):
        """Give back 1 if the first concept is subsumed by the second one, otherwise 0."""
        concepts = read_concepts(numbers, 2)
        self.check_atoms(concepts)
        kinds = Kinds(self.with_axioms(concepts))
        found = kinds.possible(self.axioms) & kinds.having(concepts[0])
        # What is left of the first concept outside the second one speaks against it.
        found &= kinds.every ^ kinds.having(concepts[1])
        return [1 if found == 0 else 0]

    def with_axioms(self, concepts):
        """Return the concepts of the axioms, in order, and then these concepts."""
        together = []
        for axiom in self.axioms:
            together.extend(axiom)
        together.extend(concepts)
        return together

    def check_atoms(self, concepts):
        """Refuse the concepts if the axioms and they have too many atoms."""
        if len(atoms_of(self.with_axioms(concepts))) > MOST_ATOMS:
            raise TooMany("too many atoms")
