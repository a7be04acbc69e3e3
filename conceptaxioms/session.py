"""The operations on one store of axioms. Each gives back the numbers of its answer."""

from conceptaxioms.concepts import BOTH, CHOICES, NAME, WITHOUT
from conceptaxioms.concepts import atoms_of, read_concepts
from conceptaxioms.kinds import Kinds, first_kind
from conceptaxioms.reported import reported_model

MOST_AXIOMS = 6
MOST_ATOMS = 6


class NoSuchAxiom(ValueError):
    """No axiom has this index."""


class TooMany(ValueError):
    """There would be more axioms or atoms than are allowed."""


class NoModel(ValueError):
    """In no model of the axioms has the concept an element."""


class Session:
    """The axioms in order, each a tuple of two concepts, and what is asked of them."""

    def __init__(self):
        self.axioms = []

    def begins(self):
        """Remove all axioms."""
        self.axioms = []
        return [0]

    def line(self, numbers):
        """Add the axiom of two concepts and give back its index."""
        concepts = read_concepts(numbers, 2)
        if len(self.axioms) >= MOST_AXIOMS:
            raise TooMany("too many axioms")
        self.check_atoms(concepts)
        self.axioms.append(tuple(concepts))
        return [len(self.axioms) - 1]

    def drop(self, index):
        """Remove the axiom with this index and give back how many are left."""
        if index >= len(self.axioms):
            raise NoSuchAxiom("no such axiom")
        self.axioms.pop(index)
        return [len(self.axioms)]

    def can(self, numbers):
        """Give back 1 if the concept can have an element, otherwise 0."""
        concepts = self.read(numbers, 1)
        kinds = self.kinds_with(concepts)
        found = kinds.possible(self.axioms) & kinds.having(concepts[0])
        return [1 if found != 0 else 0]

    def under(self, numbers):
        """Give back 1 if the first concept is subsumed by the second one, otherwise 0."""
        concepts = self.read(numbers, 2)
        kinds = self.kinds_with(concepts)
        return [1 if is_subsumed(kinds, self.axioms, concepts) else 0]

    def model(self, numbers):
        """Give back the reported model of the concept."""
        concepts = self.read(numbers, 1)
        return self.model_of(concepts[0])

    def against(self, numbers):
        """Give back the reported model of what has the first concept without the second one."""
        concepts = self.read(numbers, 2)
        return self.model_of((BOTH,) + concepts[0] + (WITHOUT,) + concepts[1])

    def names(self):
        """Give back whether there is a model, and for each two names whether one is subsumed."""
        kinds = self.kinds_with([])
        possible = kinds.possible(self.axioms)
        told = [1 if possible != 0 else 0]
        for first in range(CHOICES[NAME]):
            for second in range(CHOICES[NAME]):
                found = possible & may_have(kinds, first) & may_lack(kinds, second)
                told.append(1 if first == second or found == 0 else 0)
        return told

    def spare(self):
        """Give back how many axioms follow from all others alone, and their indexes."""
        kinds = self.kinds_with([])
        found = []
        for index, axiom in enumerate(self.axioms):
            others = self.axioms[:index] + self.axioms[index + 1:]
            if is_subsumed(kinds, others, axiom):
                found.append(index)
        return [len(found)] + found

    def read(self, numbers, wanted):
        """Return the concepts that the numbers are, if with the axioms they may be asked for."""
        concepts = read_concepts(numbers, wanted)
        self.check_atoms(concepts)
        return concepts

    def model_of(self, concept):
        """Return the numbers of the reported model of the concept."""
        kinds = self.kinds_with([concept])
        possible = kinds.possible(self.axioms)
        found = possible & kinds.having(concept)
        if found == 0:
            raise NoModel("the concept has no element")
        return reported_model(kinds, possible, first_kind(found))

    def kinds_with(self, concepts):
        """Return the kinds over the atoms of the axioms, in order, and then of the concepts."""
        return Kinds(self.with_axioms(concepts))

    def with_axioms(self, concepts):
        """Return the concepts of the axioms, in order, and then these concepts."""
        together = []
        for axiom in self.axioms:
            together.extend(axiom)
        together.extend(concepts)
        return together

    def check_atoms(self, concepts):
        """Refuse the concepts if the axioms and they have too many atoms."""
        if len(atoms_of(self.with_axioms(concepts))) > MOST_ATOMS:
            raise TooMany("too many atoms")


def is_subsumed(kinds, axioms, concepts):
    """Tell whether, with these axioms, the first of two concepts is subsumed by the second."""
    found = kinds.possible(axioms) & kinds.having(concepts[0])
    # What is left of the first concept outside the second one speaks against it.
    found &= kinds.every ^ kinds.having(concepts[1])
    return found == 0


def may_have(kinds, name):
    """Return the group of the kinds whose elements can have the name."""
    # A name that is no atom is free: an element of any kind may have it, or be without it.
    if (NAME, name) not in kinds.atoms:
        return kinds.every
    return kinds.having((NAME, name))


def may_lack(kinds, name):
    """Return the group of the kinds whose elements can be without the name."""
    if (NAME, name) not in kinds.atoms:
        return kinds.every
    return kinds.every ^ kinds.having((NAME, name))
