"""The call against: a model that speaks against the first concept being subsumed by the second."""

import itertools
import unittest

from conceptaxioms.models import answers
from tests.helper import A, B, BOTTOM, C, D, TOP, against, ask_all, ask_all_whole, ask_with, both
from tests.helper import either, having, holds, model, non, only, read_model, some, under


class Answers(unittest.TestCase):

    def check(self, expected, first, second, axioms=()):
        told = ask_with(axioms, against(first, second))
        self.assertEqual(told, expected, f"against {first} {second} with {axioms}")

    def test_not_subsumed(self):
        self.check([1, 1, 0], A, B)
        self.check([1, 2, 0], B, A)
        self.check([1, 1, 0], A, BOTTOM)
        self.check([1, 0, 0], TOP, A)
        self.check([1, 0, 0], TOP, BOTTOM)
        self.check([1, 3, 0], both(A, B), C)
        self.check([1, 2, 0], either(A, B), A)
        self.check([1, 1, 0], A, non(A))
        self.check([1, 8, 0], D, both(D, C))
        self.assertEqual(answers([6, 4, 2, 0, 2, 1]), [3, 1, 1, 0])

    def test_restrictions(self):
        for role in (0, 1):
            # some 0, A 1: kind 1 leads to 2, as A alone has the inner concept.
            self.check([2, 0, 1, role, 1, 1, 0], some(role, A), A)
            self.check([1, 1, 0], A, some(role, A))
            # only 0, A 1, some 2: kind 1 has no relation at all.
            self.check([1, 0, 0], only(role, A), some(role, A))
            # some 0, A 1, only 2: kind 1 leads to 2 and to 0, in which the only does not hold.
            self.check(
                [3, 0, 2, role, 1, role, 2, 1, 1, role, 2, 0, 1, role, 2],
                some(role, A), only(role, A),
            )

    def test_with_axioms(self):
        self.check([1, 6, 0], C, A, [(A, B), (C, B)])
        self.check([1, 2, 0], B, A, [(A, B)])
        # A 0, some B 1, B 2: kind 3 leads to 4.
        self.check([2, 1, 1, 0, 1, 2, 0], A, B, [(A, some(0, B))])

    def test_subsumed(self):
        for first, second in (
            (A, A), (A, TOP), (BOTTOM, A), (BOTTOM, BOTTOM), (TOP, TOP), (both(A, B), A),
            (A, either(B, A)), (some(0, both(A, B)), some(0, B)), (TOP, only(1, TOP)),
            (both(A, non(A)), B),
        ):
            self.check([-6], first, second)

    def test_subsumed_with_axioms(self):
        self.check([-6], A, B, [(A, B)])
        self.check([-6], A, C, [(A, B), (B, C)])
        self.check([-6], some(0, A), some(0, B), [(A, B)])
        self.check([-6], A, B, [(A, BOTTOM)])
        self.check([-6], B, A, [(TOP, A)])
        for first, second in ((A, B), (TOP, BOTTOM), (A, non(A)), (some(0, A), only(1, B))):
            self.check([-6], first, second, [(TOP, BOTTOM)])
            self.check([-6], first, second, [(TOP, some(1, A)), (A, BOTTOM)])

    def test_order_of_the_atoms(self):
        self.check([1, 1, 0], either(A, B), C)
        self.check([1, 2, 0], either(B, A), C)
        self.check([1, 2, 0], either(A, B), C, [(BOTTOM, B)])
        self.check([1, 4, 0], either(either(A, B), C), BOTTOM, [(BOTTOM, C), (A, TOP)])
        # The second concept's atoms come last: A 0, B 1, so kind 1 is the first without both.
        self.check([1, 1, 0], TOP, non(either(A, B)))
        self.check([1, 2, 0], TOP, non(either(B, A)))


class LikeModel(unittest.TestCase):

    POOL = [
        TOP, BOTTOM, A, B, non(A), both(A, B), either(B, A), some(0, A), some(1, non(B)),
        only(0, B), only(1, A), some(0, only(1, A)), non(only(1, B)),
    ]
    AXIOMS = [
        [], [(A, B)], [(TOP, some(0, A))], [(A, some(1, B)), (B, non(A))],
        [(non(A), non(only(0, A))), (some(0, B), A)], [(TOP, A), (A, BOTTOM)],
    ]

    def test_answers_as_model_of_the_first_without_the_second(self):
        pairs = list(itertools.product(self.POOL, repeat=2))
        refused = 0
        for axioms in self.AXIOMS:
            told = ask_all_whole(axioms, [against(*pair) for pair in pairs])
            questions = [model([3] + first + [5] + second) for first, second in pairs]
            self.assertEqual(told, ask_all_whole(axioms, questions))
            refused += told.count([-6])
        self.assertGreater(refused, 100)
        self.assertLess(refused, len(pairs) * 5)

    def test_refused_just_if_subsumed(self):
        """Point 3: otherwise the answer itself speaks against it."""
        pairs = list(itertools.product(self.POOL, repeat=2))
        for axioms in self.AXIOMS:
            subsumed = ask_all(axioms, [under(*pair) for pair in pairs])
            told = ask_all_whole(axioms, [against(*pair) for pair in pairs])
            for pair, one, answer in zip(pairs, subsumed, told):
                if one == 1:
                    self.assertEqual(answer, [-6], (axioms, pair))
                elif one == 0:
                    elements = read_model(answer)
                    self.assertTrue(having(pair[0], elements)[0], (axioms, pair))
                    self.assertFalse(having(pair[1], elements)[0], (axioms, pair))
                    self.assertTrue(all(holds(axiom, elements) for axiom in axioms))
                else:
                    self.assertEqual(answer, [one], (axioms, pair))

    def test_as_long_as_it_may_be(self):
        # Thirty numbers: the concept that is asked for has two more.
        odd = against([5] * 13 + A, [5] * 13 + B)
        even = against([5] * 14 + A, [5] * 12 + A)
        mixed = against([3, 0] * 7 + A, [4, 1] * 6 + B)
        self.assertEqual([len(odd), len(even), len(mixed)], [32, 32, 32])
        self.assertEqual(ask_with([], odd), [1, 2, 0])
        self.assertEqual(ask_with([], even), [-6])
        self.assertEqual(ask_with([], mixed), [1, 1, 0])
        self.assertEqual(ask_with([(A, B)], mixed), [-6])


if __name__ == "__main__":
    unittest.main()
