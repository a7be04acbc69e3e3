"""Points 1 and 3 against all models of few elements, looked through one by one.

A concept that has an element in such a model must be possible. For the concepts here the
reverse holds, too: what has an element in any model has one in such a small one.
"""

import itertools
import unittest

from tests.helper import A, BOTTOM, TOP, ask_all, both, can, either, non, only, some, under


def models_of(size):
    """Return all models of this size over name 0 and role 0, as (with the name, relations)."""
    places = range(size)
    found = []
    for named in itertools.product((False, True), repeat=size):
        for related in itertools.product((False, True), repeat=size * size):
            rows = [related[place * size:(place + 1) * size] for place in places]
            found.append((named, rows))
    return found


def having(concept, model):
    """Return for each element whether it has the concept, and the concept's length."""
    named, rows = model
    size = len(named)
    first = concept[0]
    if first in (0, 1):
        return [first == 0] * size, 1
    if first == 2:
        return list(named), 2
    if first == 5:
        one, length = having(concept[1:], model)
        return [not has for has in one], length + 1
    if first in (3, 4):
        one, length = having(concept[1:], model)
        other, more = having(concept[1 + length:], model)
        pick = all if first == 3 else any
        return [pick(pair) for pair in zip(one, other)], 1 + length + more
    inner, length = having(concept[2:], model)
    pick = any if first == 6 else all
    told = [pick(has for has, to in zip(inner, row) if to) for row in rows]
    return told, length + 2


def holds(axiom, model):
    first, length = having(axiom[0], model)
    second, length = having(axiom[1], model)
    return all(after for before, after in zip(first, second) if before)


def concepts_up_to(length):
    """Return all concepts over name 0 and role 0 of at most so many numbers."""
    by_length = {0: [], 1: [TOP, BOTTOM], 2: [A]}
    for count in range(2, length + 1):
        found = list(by_length.get(count, []))
        found += [non(inner) for inner in by_length[count - 1]]
        found += [some(0, inner) for inner in by_length[count - 2]]
        found += [only(0, inner) for inner in by_length[count - 2]]
        for left in range(1, count - 1):
            for one, other in itertools.product(by_length[left], by_length[count - 1 - left]):
                found += [both(one, other), either(one, other)]
        by_length[count] = found
    return [concept for count in range(1, length + 1) for concept in by_length[count]]


AXIOMS = [
    [],
    [(TOP, A)],
    [(A, BOTTOM)],
    [(TOP, BOTTOM)],
    [(A, some(0, A))],
    [(A, some(0, non(A)))],
    [(A, only(0, BOTTOM))],
    [(TOP, some(0, TOP)), (A, only(0, non(A)))],
    [(some(0, TOP), A), (A, non(only(0, A)))],
    [(TOP, some(0, A)), (A, only(0, A))],
    [(non(A), some(0, A)), (only(0, BOTTOM), non(A))],
    [(TOP, either(A, some(0, A))), (some(0, A), only(0, A))],
]


class SmallModels(unittest.TestCase):

    MODELS = models_of(1) + models_of(2)

    def obeying(self, axioms):
        return [model for model in self.MODELS if all(holds(axiom, model) for axiom in axioms)]

    def test_can(self):
        concepts = concepts_up_to(5)
        for axioms in AXIOMS:
            models = self.obeying(axioms)
            told = ask_all(axioms, [can(concept) for concept in concepts])
            for concept, answer in zip(concepts, told):
                found = any(any(having(concept, model)[0]) for model in models)
                self.assertEqual(answer, int(found), (axioms, concept))

    def test_under(self):
        concepts = concepts_up_to(4)
        pairs = list(itertools.product(concepts, repeat=2))[::5]
        for axioms in AXIOMS:
            models = self.obeying(axioms)
            told = ask_all(axioms, [under(*pair) for pair in pairs])
            for pair, answer in zip(pairs, told):
                kept = all(holds(pair, model) for model in models)
                self.assertEqual(answer, int(kept), (axioms, pair))


if __name__ == "__main__":
    unittest.main()
