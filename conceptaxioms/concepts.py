"""Concepts in prefix notation: where they end, where their parts begin, which atoms they have.

A concept is kept as the tuple of its numbers. The notation tells by itself where each part
ends, so two concepts are equal just if their numbers are.
"""

# What a concept begins with.
TOP = 0
BOTTOM = 1
NAME = 2
BOTH = 3
EITHER = 4
WITHOUT = 5
SOME = 6
ONLY = 7

# By the number that a concept begins with: how many concepts stand inside it.
PARTS = (0, 0, 0, 2, 2, 1, 1, 1)

# By the same number: how many names or roles there are to choose from for the number behind
# it, and 0 where a concept has no such number.
CHOICES = (0, 0, 4, 0, 0, 0, 2, 2)


class NotConcepts(ValueError):
    """The numbers are not exactly the concepts that are asked for."""


def head_length(numbers, start):
    """Return how many numbers stand ahead of the parts of the concept that begins at start."""
    if start >= len(numbers) or numbers[start] >= len(PARTS):
        raise NotConcepts("no concept begins here")
    choices = CHOICES[numbers[start]]
    if choices == 0:
        return 1
    if start + 1 >= len(numbers) or numbers[start + 1] >= choices:
        raise NotConcepts("no such name or role")
    return 2


def concept_end(numbers, start):
    """Return the place just behind the concept that begins at start."""
    place = start
    missing = 1
    while missing > 0:
        length = head_length(numbers, place)
        missing += PARTS[numbers[place]] - 1
        place += length
    return place


def read_concepts(numbers, wanted):
    """Return the concepts that the numbers are, if they are exactly as many as wanted."""
    concepts = []
    start = 0
    while len(concepts) < wanted:
        end = concept_end(numbers, start)
        concepts.append(tuple(numbers[start:end]))
        start = end
    if start < len(numbers):
        raise NotConcepts("numbers are left over")
    return concepts


def part_starts(concept):
    """Return the places where the concept and all concepts inside it begin, in order."""
    starts = []
    place = 0
    while place < len(concept):
        starts.append(place)
        place += head_length(concept, place)
    return starts


def concept_at(concept, start):
    """Return the concept that begins at start inside a concept."""
    return concept[start:concept_end(concept, start)]


def atoms_of(concepts):
    """Return the atoms of the concepts, each once, in the order in which they first occur."""
    atoms = []
    for concept in concepts:
        for start in part_starts(concept):
            if concept[start] in (NAME, SOME, ONLY):
                atom = concept_at(concept, start)
                if atom not in atoms:
                    atoms.append(atom)
    return atoms
