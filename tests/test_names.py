"""Point 4: names tells whether there is a model, and which names are subsumed by which names."""

import itertools
import unittest

from conceptaxioms.models import answers
from tests.helper import A, B, BOTTOM, C, D, TOP, ask_all, ask_last_whole, ask_with, both, can
from tests.helper import either, joined, line, names, non, only, some, under

NAMES = [A, B, C, D]
ONLY_THEMSELVES = [[1, 0, 0, 0], [0, 1, 0, 0], [0, 0, 1, 0], [0, 0, 0, 1]]
NO_MODEL = [0] + [1] * 16


class NamesCase(unittest.TestCase):

    def check(self, rows, axioms, exists=1):
        told = ask_with(axioms, names())
        self.assertEqual(told, [exists] + joined(rows), axioms)

    def check_none(self, axioms):
        self.check([[1, 1, 1, 1]] * 4, axioms, 0)


class FewAtoms(NamesCase):

    def test_without_axioms(self):
        self.check(ONLY_THEMSELVES, [])
        self.assertEqual(answers([7]), [17, 1, 1, 0, 0, 0, 0, 1, 0, 0, 0, 0, 1, 0, 0, 0, 0, 1])

    def test_one_below_the_other(self):
        self.check([[1, 1, 0, 0], [0, 1, 0, 0], [0, 0, 1, 0], [0, 0, 0, 1]], [(A, B)])
        self.check([[1, 0, 0, 0], [0, 1, 0, 0], [0, 0, 1, 0], [1, 0, 0, 1]], [(D, A)])
        self.check([[1, 1, 0, 0], [1, 1, 0, 0], [0, 0, 1, 0], [0, 0, 0, 1]], [(A, B), (B, A)])

    def test_in_a_row(self):
        axioms = [(A, B), (B, C), (C, D)]
        self.check([[1, 1, 1, 1], [0, 1, 1, 1], [0, 0, 1, 1], [0, 0, 0, 1]], axioms)
        self.check([[1, 1, 1, 1], [1, 1, 1, 1], [1, 1, 1, 1], [1, 1, 1, 1]], axioms + [(D, A)])

    def test_axioms_that_say_nothing_of_names(self):
        for axioms in (
            [(TOP, TOP)], [(BOTTOM, A)], [(A, TOP), (B, B)], [(A, either(A, B))],
            [(TOP, some(0, TOP))], [(some(0, A), some(0, A))], [(only(1, BOTTOM), only(1, A))],
            [(both(A, B), either(C, D))], [(A, non(B))],
        ):
            self.check(ONLY_THEMSELVES, axioms)

    def test_through_restrictions(self):
        self.check(
            [[1, 0, 0, 0], [1, 1, 0, 0], [0, 0, 1, 0], [0, 0, 0, 1]],
            [(some(0, TOP), A), (B, some(0, C))],
        )
        self.check(
            [[1, 0, 0, 0], [1, 1, 0, 0], [0, 0, 1, 0], [0, 0, 0, 1]],
            [(non(A), only(1, C)), (B, non(only(1, C)))],
        )
        self.check(ONLY_THEMSELVES, [(some(0, TOP), A), (B, some(1, C))])

    def test_a_name_without_elements(self):
        self.check([[1, 1, 1, 1], [0, 1, 0, 0], [0, 0, 1, 0], [0, 0, 0, 1]], [(A, BOTTOM)])
        self.check([[1, 0, 0, 0], [0, 1, 0, 0], [0, 0, 1, 0], [1, 1, 1, 1]], [(D, some(0, BOTTOM))])
        self.check(
            [[1, 1, 1, 1], [1, 1, 1, 1], [0, 0, 1, 0], [0, 0, 0, 1]],
            [(A, some(0, B)), (B, BOTTOM)],
        )

    def test_a_name_that_all_elements_have(self):
        self.check([[1, 0, 1, 0], [0, 1, 1, 0], [0, 0, 1, 0], [0, 0, 1, 1]], [(TOP, C)])
        self.check([[1, 0, 0, 0], [1, 1, 0, 0], [1, 0, 1, 0], [1, 0, 0, 1]], [(non(A), BOTTOM)])
        # Each element is related to some element, and so it has C.
        self.check(
            [[1, 0, 1, 0], [0, 1, 1, 0], [0, 0, 1, 0], [0, 0, 1, 1]],
            [(TOP, some(0, TOP)), (some(0, TOP), C)],
        )

    def test_one_that_all_have_and_one_that_none_has(self):
        self.check(
            [[1, 0, 0, 1], [0, 1, 0, 1], [1, 1, 1, 1], [0, 0, 0, 1]], [(TOP, D), (C, BOTTOM)],
        )
        self.check(
            [[1, 1, 1, 1], [0, 1, 0, 0], [0, 1, 1, 0], [0, 1, 0, 1]], [(TOP, B), (B, non(A))],
        )

    def test_no_model(self):
        for axioms in (
            [(TOP, BOTTOM)], [(TOP, A), (A, BOTTOM)], [(TOP, some(0, A)), (A, BOTTOM)],
            [(TOP, non(only(1, B))), (TOP, B)], [(A, B), (B, non(A)), (non(A), A)],
        ):
            self.check_none(axioms)
        self.assertEqual(answers(line(TOP, BOTTOM) + names()), [1, 0, 17] + NO_MODEL)

    def test_dropped_axioms_count_no_more(self):
        told = ask_last_whole(line(A, B), line(B, C), [2, 0], names())
        self.assertEqual(told, [1, 1, 0, 0, 0, 0, 1, 1, 0, 0, 0, 1, 0, 0, 0, 0, 1])
        told = ask_last_whole(line(TOP, BOTTOM), [0], names())
        self.assertEqual(told, [1] + joined(ONLY_THEMSELVES))


class SixAtoms(NamesCase):
    """With the names there are more than six atoms, which is no error here."""

    def check(self, rows, axioms, exists=1):
        # One more atom is refused, so there are six.
        self.assertEqual(ask_with(axioms, can(some(1, BOTTOM))), [-7])
        NamesCase.check(self, rows, axioms, exists)

    def chain(self, last):
        """Return a concept of six restrictions within each other."""
        return some(0, some(1, only(0, some(0, only(1, some(1, last))))))

    def test_none_of_them_a_name(self):
        self.check(ONLY_THEMSELVES, [(self.chain(TOP), TOP)])
        self.check(ONLY_THEMSELVES, [(TOP, self.chain(TOP))])
        self.check(ONLY_THEMSELVES, [(self.chain(TOP), BOTTOM)])
        self.check_none([(TOP, self.chain(TOP)), (self.chain(TOP), BOTTOM)])
        self.check_none([(TOP, some(0, some(0, some(0, some(0, some(0, some(0, BOTTOM)))))))])

    def test_one_of_them_a_name(self):
        # Four restrictions and A, and the fifth restriction around them.
        chain = self.chain(A)[4:]
        self.check(ONLY_THEMSELVES, [(chain, A), (some(1, chain), TOP)])
        self.check(
            [[1, 0, 0, 0], [1, 1, 0, 0], [1, 0, 1, 0], [1, 0, 0, 1]],
            [(some(1, chain), BOTTOM), (TOP, A)],
        )
        self.check(
            [[1, 1, 1, 1], [0, 1, 0, 0], [0, 0, 1, 0], [0, 0, 0, 1]],
            [(some(1, chain), BOTTOM), (A, BOTTOM)],
        )
        self.check_none([(TOP, some(1, chain)), (A, BOTTOM), (TOP, A)])

    def test_some_of_them_names(self):
        axioms = [(A, some(0, B)), (some(0, B), C), (only(1, A), only(1, C)), (C, B)]
        self.check([[1, 1, 1, 0], [0, 1, 0, 0], [0, 1, 1, 0], [0, 0, 0, 1]], axioms)
        axioms = [(D, some(0, B)), (D, only(0, only(1, B))), (some(0, only(1, B)), B)]
        self.check([[1, 0, 0, 0], [0, 1, 0, 0], [0, 0, 1, 0], [0, 1, 0, 1]], axioms)

    def test_all_names_among_them(self):
        axioms = [(A, both(B, some(0, C))), (some(0, C), D), (D, only(1, D))]
        self.check([[1, 1, 0, 1], [0, 1, 0, 0], [0, 0, 1, 0], [0, 0, 0, 1]], axioms)
        axioms = axioms + [(C, BOTTOM)]
        self.check([[1, 1, 1, 1], [0, 1, 0, 0], [1, 1, 1, 1], [0, 0, 0, 1]], axioms)
        axioms = axioms + [(TOP, D)]
        self.check([[1, 1, 1, 1], [0, 1, 0, 1], [1, 1, 1, 1], [0, 0, 0, 1]], axioms)
        self.check_none(axioms + [(D, A)])


class LikeUnder(unittest.TestCase):

    AXIOMS = [
        [],
        [(A, B)],
        [(A, B), (B, non(C))],
        [(A, some(0, B)), (some(0, TOP), D)],
        [(TOP, either(A, B)), (A, C), (B, C)],
        [(both(A, B), BOTTOM), (C, A), (C, B)],
        [(TOP, some(1, A)), (TOP, only(1, B))],
        [(A, BOTTOM), (TOP, B), (C, D)],
        [(TOP, only(0, BOTTOM)), (A, some(0, B))],
        [(TOP, some(0, A)), (TOP, only(0, non(A)))],
    ]

    def test_agrees_with_under_and_can(self):
        pairs = list(itertools.product(NAMES, repeat=2))
        for axioms in self.AXIOMS:
            expected = ask_all(axioms, [can(TOP)] + [under(*pair) for pair in pairs])
            self.assertEqual(ask_with(axioms, names()), expected, axioms)

    def test_an_axiom_added_keeps_what_is_subsumed(self):
        """Point 6."""
        axioms = [(A, some(0, B)), (some(0, B), C), (B, A), (C, D), (TOP, only(0, C)), (C, non(B))]
        before = ask_with([], names())
        counts = [sum(before[1:])]
        for count in range(1, len(axioms) + 1):
            after = ask_with(axioms[:count], names())
            for old, new in zip(before[1:], after[1:]):
                self.assertLessEqual(old, new, axioms[:count])
            self.assertGreaterEqual(before[0], after[0])
            before = after
            counts.append(sum(after[1:]))
        # The last axiom leaves B without elements, and with it A.
        self.assertEqual(counts, [4, 4, 5, 7, 10, 10, 11])

    def test_is_transitive(self):
        """Point 7."""
        for axioms in self.AXIOMS:
            told = ask_with(axioms, names())[1:]
            for first, second, third in itertools.product(range(4), repeat=3):
                if told[4 * first + second] == 1 and told[4 * second + third] == 1:
                    self.assertEqual(told[4 * first + third], 1, axioms)

    def test_order_of_the_axioms(self):
        """Point 8."""
        axioms = [(A, some(0, B)), (some(0, B), C), (C, only(1, D)), (both(A, D), BOTTOM)]
        expected = [1, 1, 0, 1, 0, 0, 1, 0, 0, 0, 0, 1, 0, 0, 0, 0, 1]
        for ordered in itertools.permutations(axioms):
            self.assertEqual(ask_with(list(ordered), names()), expected)
        for axioms in self.AXIOMS:
            turned = ask_with(axioms[::-1], names())
            self.assertEqual(turned, ask_with(axioms, names()), axioms)


if __name__ == "__main__":
    unittest.main()
