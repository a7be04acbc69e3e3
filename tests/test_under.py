"""Points 3, 6, 7 and 8: subsumption, and what the axioms do to it."""

import itertools
import unittest

from tests.helper import A, B, BOTTOM, C, D, TOP
from tests.helper import ask, ask_all, ask_last, both, can, either, line, lines, non, only, some, under


class Subsumed(unittest.TestCase):

    def check(self, expected, first, second, axioms=()):
        told = ask_last(*lines(axioms), under(first, second))
        self.assertEqual(told, expected, f"under {first} {second} with {axioms}")

    def test_without_axioms(self):
        for first, second in (
            (A, A), (A, TOP), (TOP, TOP), (BOTTOM, BOTTOM), (both(A, B), A), (both(A, B), B),
            (A, either(A, B)), (B, either(A, B)), (A, non(non(A))), (non(either(A, B)), non(A)),
            (TOP, either(A, non(A))), (TOP, non(BOTTOM)), (both(A, either(B, C)), either(B, C)),
        ):
            self.check(1, first, second)

    def test_not_without_axioms(self):
        for first, second in (
            (A, B), (TOP, A), (A, BOTTOM), (TOP, BOTTOM), (A, non(A)), (non(A), A),
            (A, both(A, B)), (either(A, B), A), (either(A, B), B), (non(A), non(either(A, B))),
        ):
            self.check(0, first, second)

    def test_restrictions(self):
        for role in (0, 1):
            for first, second in (
                (some(role, both(A, B)), some(role, A)),
                (only(role, A), only(role, either(A, B))),
                (TOP, only(role, TOP)),
                (non(only(role, A)), some(role, non(A))),
                (some(role, non(A)), non(only(role, A))),
                (both(only(role, A), some(role, TOP)), some(role, A)),
                (some(role, either(A, B)), either(some(role, A), some(role, B))),
                (some(role, A), some(role, non(non(A)))),
                (some(role, some(1 - role, A)), some(role, some(1 - role, either(A, B)))),
            ):
                self.check(1, first, second)

    def test_not_with_restrictions(self):
        for role in (0, 1):
            for first, second in (
                (some(role, A), some(role, both(A, B))),
                (only(role, either(A, B)), only(role, A)),
                (TOP, some(role, TOP)),
                (only(role, A), some(role, A)),
                (some(role, A), only(role, A)),
                (some(role, A), some(1 - role, A)),
                (only(role, A), only(1 - role, A)),
                (only(role, either(A, B)), either(only(role, A), only(role, B))),
                (both(some(role, A), some(role, B)), some(role, both(A, B))),
                (some(role, A), A),
                (A, some(role, A)),
            ):
                self.check(0, first, second)

    def test_with_axioms(self):
        axioms = [(A, some(0, TOP)), (A, only(0, B)), (B, C)]
        self.check(1, A, some(0, B), axioms)
        self.check(1, B, C, axioms)
        self.check(0, C, B, axioms)
        self.check(0, A, B, axioms)
        self.check(1, A, only(0, B), axioms)
        self.check(1, both(A, B), C, axioms)
        self.check(1, A, some(0, C), axioms)

    def test_first_concept_never_has_an_element(self):
        for second in (A, B, BOTTOM, TOP, some(0, A), only(1, BOTTOM)):
            self.check(1, BOTTOM, second)
            self.check(1, both(A, non(A)), second)
            self.check(1, some(0, BOTTOM), second)
            self.check(1, A, second, [(A, BOTTOM)])
            self.check(1, A, second, [(A, some(1, B)), (B, BOTTOM)])
        self.check(0, B, A, [(A, BOTTOM)])
        self.check(0, TOP, A, [(A, BOTTOM)])

    def test_no_model_at_all(self):
        for first, second in ((TOP, BOTTOM), (A, B), (B, non(B)), (only(0, A), some(1, A))):
            self.check(1, first, second, [(TOP, BOTTOM)])
            self.check(1, first, second, [(TOP, some(0, A)), (A, BOTTOM)])

    def test_agrees_with_can(self):
        pool = [TOP, BOTTOM, A, B, both(A, B), some(0, A), only(0, B), only(0, non(A))]
        for axioms in ([], [(A, B)], [(some(0, A), B)], [(TOP, some(0, A)), (B, only(0, B))]):
            pairs = list(itertools.product(pool, repeat=2))
            told = ask_all(axioms, [under(*pair) for pair in pairs])
            against = ask_all(axioms, [can(both(first, non(second))) for first, second in pairs])
            self.assertEqual(told, [1 - one for one in against])


class MoreAxioms(unittest.TestCase):
    """Point 6."""

    POOL = [A, B, C, both(A, B), either(B, C), some(0, A), only(0, B), non(A)]
    AXIOMS = [(A, B), (some(0, A), C), (C, only(0, B)), (B, some(0, A)), (C, BOTTOM), (TOP, C)]

    def test_subsumed_stays_subsumed(self):
        pairs = list(itertools.product(self.POOL, repeat=2))
        questions = [under(*pair) for pair in pairs]
        before = ask_all([], questions)
        self.assertIn(0, before)
        for count in range(1, len(self.AXIOMS) + 1):
            after = ask_all(self.AXIOMS[:count], questions)
            for pair, old, new in zip(pairs, before, after):
                self.assertLessEqual(old, new, f"{pair} with {count} axioms")
            before = after
        self.assertEqual(before, [1] * len(pairs))

    def test_within_one_list(self):
        told = ask(
            under(A, C), line(A, B), under(A, B), under(A, C), line(B, C),
            under(A, B), under(A, C), line(D, A), under(A, B), under(A, C), under(D, C),
        )
        self.assertEqual(told, [0, 0, 1, 0, 1, 1, 1, 2, 1, 1, 1])


class Transitive(unittest.TestCase):
    """Point 7."""

    POOL = [TOP, BOTTOM, A, B, both(A, B), either(A, B), some(0, A), some(0, B), only(0, B)]

    def test_goes_over_to_the_third(self):
        pairs = list(itertools.product(range(len(self.POOL)), repeat=2))
        questions = [under(self.POOL[first], self.POOL[second]) for first, second in pairs]
        for axioms in ([], [(A, B)], [(A, some(0, A)), (some(0, B), B)], [(B, only(0, A))]):
            told = dict(zip(pairs, ask_all(axioms, questions)))
            for first, second in pairs:
                for third in range(len(self.POOL)):
                    if told[first, second] == 1 and told[second, third] == 1:
                        self.assertEqual(told[first, third], 1, (axioms, first, second, third))

    def test_along_a_row_of_axioms(self):
        told = ask(
            line(A, B), line(B, C), line(C, D),
            under(A, B), under(B, C), under(A, C), under(C, D), under(A, D), under(D, A),
        )
        self.assertEqual(told, [0, 1, 2, 1, 1, 1, 1, 1, 0])


class Order(unittest.TestCase):
    """Point 8."""

    POOL = [
        A, B, C, both(A, B), both(A, non(B)), both(A, C), some(0, A), some(0, C),
        both(B, some(0, C)), both(non(A), non(B)), non(some(0, C)), TOP,
    ]

    def test_three_axioms_in_all_orders(self):
        for axioms in (
            [(A, some(0, B)), (B, some(0, C)), (C, BOTTOM)],
            [(A, some(0, B)), (some(0, B), C), (C, non(B))],
            [(TOP, either(A, B)), (A, some(0, C)), (both(A, B), BOTTOM)],
        ):
            questions = [can(concept) for concept in self.POOL]
            first = ask_all(axioms, questions)
            self.assertEqual(set(first), {0, 1})
            for ordered in itertools.permutations(axioms):
                self.assertEqual(ask_all(list(ordered), questions), first)

    def test_the_answers_themselves(self):
        axioms = [(A, some(0, B)), (B, some(0, C)), (C, BOTTOM)]
        for ordered in itertools.permutations(axioms):
            told = ask_all(list(ordered), [can(concept) for concept in self.POOL])
            self.assertEqual(told, [0, 0, 0, 0, 0, 0, 0, 0, 0, 1, 1, 1])

    def test_six_axioms_turned_and_reversed(self):
        axioms = [
            (A, some(0, B)), (B, C), (C, non(A)), (both(B, non(C)), BOTTOM), (C, some(1, A)),
            (TOP, either(A, C)),
        ]
        questions = [
            can(concept) for concept in
            (A, B, C, both(A, B), both(A, C), non(C), both(non(A), non(C)), some(1, A), non(B))
        ]
        expected = [1, 1, 1, 0, 0, 1, 0, 1, 1]
        for turn in range(6):
            ordered = axioms[turn:] + axioms[:turn]
            self.assertEqual(ask_all(ordered, questions), expected)
            self.assertEqual(ask_all(ordered[::-1], questions), expected)


if __name__ == "__main__":
    unittest.main()
