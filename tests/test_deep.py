"""Concepts that are nested as deep as 30 numbers allow."""

import unittest

from tests.helper import A, B, BOTTOM, TOP, ask, ask_last, can, line, non, under


class Deep(unittest.TestCase):

    def check_can(self, expected, concept, *axioms):
        self.assertEqual(len(concept), 30)
        self.assertEqual(ask_last(*axioms, can(concept)), expected, concept)

    def test_negations(self):
        even = [5] * 28 + A
        self.check_can(1, even)
        self.check_can(0, even, line(A, BOTTOM))
        self.check_can(0, even, line(TOP, non(A)))
        self.check_can(1, even, line(TOP, A))
        self.check_can(0, [5] * 29 + TOP)
        self.check_can(1, [5] * 29 + BOTTOM)
        self.assertEqual(ask(can([5] * 27 + A), can([5] * 28 + TOP)), [1, 1])
        self.assertEqual(ask_last(line(TOP, A), can([5] * 27 + A)), 0)

    def test_nested_on_the_right(self):
        self.check_can(1, [3, 0] * 14 + A)
        self.check_can(0, [3, 0] * 14 + A, line(A, BOTTOM))
        self.check_can(1, [4, 1] * 14 + A)
        self.check_can(0, [4, 1] * 14 + A, line(A, BOTTOM))
        self.check_can(0, [5] + [4, 1] * 14 + TOP)
        self.check_can(1, [5] + [3, 0] * 14 + BOTTOM)

    def test_nested_on_the_left(self):
        self.check_can(0, [5] + [3] * 14 + [0] * 15)
        self.check_can(1, [5] + [3] * 14 + [0] * 14 + [1])
        self.check_can(1, [5] + [3] * 14 + [1] + [0] * 14)
        self.check_can(1, [3] * 14 + A + [0] * 14)
        self.check_can(1, [4] * 14 + A + [1] * 14)
        self.check_can(0, [4] * 14 + A + [1] * 14, line(A, BOTTOM))
        self.check_can(0, [3] * 14 + A + [0] * 13 + [1])

    def test_restrictions(self):
        # Five restrictions and the name: as many atoms as are allowed.
        self.check_can(1, [5, 5, 5, 6, 0] * 5 + [5, 5, 5] + A)
        self.check_can(1, [5, 7, 1, 5, 5] * 5 + [5, 5, 5] + A)
        self.check_can(0, [5, 5, 5, 5] * 4 + [5, 5] + [6, 1] * 5 + A, line(A, BOTTOM))
        self.check_can(1, [5, 5, 5, 5] * 4 + [5, 5] + [7, 1] * 5 + A, line(A, BOTTOM))
        self.check_can(0, [5, 5, 5, 5] * 4 + [5] + [7, 1] * 5 + [5] + A, line(TOP, non(A)))

    def test_too_many_restrictions(self):
        self.check_can(-7, [6, 0] * 14 + A)
        self.check_can(-7, [7, 1] * 14 + A)
        self.check_can(-7, [6, 0, 7, 1] * 7 + A)

    def test_broken_off(self):
        for numbers in (
            [3] * 30, [4] * 30, [5] * 30, [6, 0] * 15, [7, 1] * 15, [5] * 29 + [2],
            [3] * 15 + [0] * 15, [3] * 14 + [0] * 14 + [5, 5], [5] * 28 + [6, 1],
        ):
            self.check_can(-1, numbers)
            self.assertEqual(ask(line(numbers), under(numbers)), [-1, -1], numbers)

    def test_left_over_or_unknown_at_the_end(self):
        for numbers in (
            [3] * 14 + [0] * 16, [5] * 28 + [0, 0], [0] * 30, [5] * 28 + [2, 4], [5] * 29 + [8],
            [5] * 27 + [6, 2, 0],
        ):
            self.check_can(-1, numbers)

    def test_two_concepts(self):
        even = [5] * 12 + A
        odd = [5] * 13 + A
        self.assertEqual(len(even) + len(odd), 29)
        self.assertEqual(
            ask(under(even, odd), under(even, [5] * 14 + A), under([5] * 14 + A, even)),
            [0, 1, 1],
        )
        self.assertEqual(ask(line([5] * 14 + A, [5] * 12 + B), under(A, B)), [0, 1])
        self.assertEqual(ask(line([5] * 13 + A, [5] * 13 + B), under(B, A), under(A, B)), [0, 1, 0])
        self.assertEqual(ask(line([3, 0] * 7 + A, [4, 1] * 6 + B), under(A, B)), [0, 1])


if __name__ == "__main__":
    unittest.main()
