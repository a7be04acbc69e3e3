"""Points 1 to 4 against all models of few elements, looked through one by one.

A concept that has an element in such a model must be possible. For the concepts here the
reverse holds, too: what has an element in any model has one in such a small one.
"""

import itertools
import unittest

from tests.helper import A, BOTTOM, TOP, against, ask_all, ask_all_whole, both, can, either
from tests.helper import having, holds, model, names, non, only, read_model, some, under


def models_of(size):
    """Return all models of this size over name 0 and role 0, as lists of their elements."""
    places = range(size)
    found = []
    for named in itertools.product((0, 1), repeat=size):
        for related in itertools.product((False, True), repeat=size * size):
            rows = [related[place * size:(place + 1) * size] for place in places]
            relations = [[(0, other) for other in places if row[other]] for row in rows]
            found.append(list(zip(named, relations)))
    return found


def concepts_up_to(length):
    """Return all concepts over name 0 and role 0 of at most so many numbers."""
    by_length = {0: [], 1: [TOP, BOTTOM], 2: [A]}
    for count in range(2, length + 1):
        found = list(by_length.get(count, []))
        found += [non(inner) for inner in by_length[count - 1]]
        found += [some(0, inner) for inner in by_length[count - 2]]
        found += [only(0, inner) for inner in by_length[count - 2]]
        for left in range(1, count - 1):
            for one, other in itertools.product(by_length[left], by_length[count - 1 - left]):
                found += [both(one, other), either(one, other)]
        by_length[count] = found
    return [concept for count in range(1, length + 1) for concept in by_length[count]]


AXIOMS = [
    [],
    [(TOP, A)],
    [(A, BOTTOM)],
    [(TOP, BOTTOM)],
    [(A, some(0, A))],
    [(A, some(0, non(A)))],
    [(A, only(0, BOTTOM))],
    [(TOP, some(0, TOP)), (A, only(0, non(A)))],
    [(some(0, TOP), A), (A, non(only(0, A)))],
    [(TOP, some(0, A)), (A, only(0, A))],
    [(non(A), some(0, A)), (only(0, BOTTOM), non(A))],
    [(TOP, either(A, some(0, A))), (some(0, A), only(0, A))],
]


class SmallModels(unittest.TestCase):

    MODELS = models_of(1) + models_of(2)

    def obeying(self, axioms):
        return [one for one in self.MODELS if all(holds(axiom, one) for axiom in axioms)]

    def test_can(self):
        concepts = concepts_up_to(5)
        for axioms in AXIOMS:
            models = self.obeying(axioms)
            told = ask_all(axioms, [can(concept) for concept in concepts])
            for concept, answer in zip(concepts, told):
                found = any(any(having(concept, one)) for one in models)
                self.assertEqual(answer, int(found), (axioms, concept))

    def test_under(self):
        concepts = concepts_up_to(4)
        pairs = list(itertools.product(concepts, repeat=2))[::5]
        for axioms in AXIOMS:
            models = self.obeying(axioms)
            told = ask_all(axioms, [under(*pair) for pair in pairs])
            for pair, answer in zip(pairs, told):
                kept = all(holds(pair, one) for one in models)
                self.assertEqual(answer, int(kept), (axioms, pair))

    def check_model(self, answer, axioms, concept, models):
        """Check that the answer tells a model of the concept, or that there is none."""
        if not any(any(having(concept, one)) for one in models):
            self.assertEqual(answer, [-6], (axioms, concept))
            return
        elements = read_model(answer)
        self.assertTrue(having(concept, elements)[0], (axioms, concept, answer))
        for axiom in axioms:
            self.assertTrue(holds(axiom, elements), (axiom, concept, answer))

    def test_model(self):
        concepts = concepts_up_to(5)
        for axioms in AXIOMS:
            models = self.obeying(axioms)
            told = ask_all_whole(axioms, [model(concept) for concept in concepts])
            for concept, answer in zip(concepts, told):
                self.check_model(answer, axioms, concept, models)

    def test_against(self):
        concepts = concepts_up_to(4)
        pairs = list(itertools.product(concepts, repeat=2))[::7]
        for axioms in AXIOMS:
            models = self.obeying(axioms)
            told = ask_all_whole(axioms, [against(*pair) for pair in pairs])
            for (first, second), answer in zip(pairs, told):
                self.check_model(answer, axioms, both(first, non(second)), models)

    def test_names(self):
        for axioms in AXIOMS:
            models = self.obeying(axioms)
            told, = ask_all_whole(axioms, [names()])
            self.assertEqual(told[0], int(len(models) > 0), axioms)
            # Name 0 is the only one of the axioms, so the others are free.
            never = int(not any(any(having(A, one)) for one in models))
            always = int(all(all(having(A, one)) for one in models))
            self.assertEqual(told[1:5], [1] + [never] * 3, axioms)
            self.assertEqual(told[1::4], [1] + [always] * 3, axioms)


if __name__ == "__main__":
    unittest.main()
