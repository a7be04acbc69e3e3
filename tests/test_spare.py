"""Point 5: spare tells which axioms follow from all the others."""

import itertools
import unittest

from conceptaxioms.models import answers
from tests.helper import A, B, BOTTOM, C, D, TOP, ask_all, ask_last_whole, ask_with, both, drop
from tests.helper import either, line, non, only, some, spare, under


class SpareCase(unittest.TestCase):

    def check(self, indexes, axioms):
        told = ask_with(axioms, spare())
        self.assertEqual(told, [len(indexes)] + indexes, axioms)


class Answers(SpareCase):

    def test_without_axioms(self):
        self.check([], [])
        self.assertEqual(answers([8]), [1, 0])

    def test_not_redundant(self):
        self.check([], [(A, B)])
        self.check([], [(A, B), (B, A)])
        self.check([], [(A, B), (B, C), (C, D)])
        self.check([], [(A, some(0, B)), (A, some(1, B))])
        self.check([], [(A, some(0, A)), (A, only(0, B))])
        self.check([], [(TOP, A)])
        self.check([], [(TOP, BOTTOM)])
        self.check([], [(A, B), (C, B), (both(A, C), D)])

    def test_two_equal_axioms(self):
        self.check([0, 1], [(A, B), (A, B)])
        self.check([0, 2], [(A, B), (B, C), (A, B)])
        self.check([1, 2], [(D, A), (A, some(0, B)), (A, some(0, B))])
        self.check([0, 1, 2], [(A, B), (A, B), (A, B)])
        self.check([0, 1, 2, 3, 4, 5], [(A, B)] * 6)
        self.check([0, 1], [(TOP, BOTTOM), (TOP, BOTTOM)])
        self.check([0, 1], [(A, B), (non(B), non(A))])

    def test_holds_everywhere(self):
        for axiom in (
            (A, A), (A, TOP), (BOTTOM, A), (TOP, TOP), (both(A, B), B), (A, either(B, A)),
            (some(0, both(A, B)), some(0, A)), (A, only(1, TOP)), (some(1, BOTTOM), B),
            (TOP, either(A, non(A))), (non(only(0, A)), some(0, non(A))),
        ):
            self.check([0], [axiom])
            self.check([1], [(C, D), axiom])
            self.check([0], [axiom, (C, D)])

    def test_follows_from_two_others(self):
        self.check([2], [(A, B), (B, C), (A, C)])
        self.check([1], [(A, B), (A, C), (B, C)])
        self.check([0], [(A, C), (A, B), (B, C)])
        self.check([2], [(A, either(B, C)), (B, D), (both(A, non(C)), D)])
        self.check([0], [(both(A, non(C)), D), (A, either(B, C)), (B, D)])

    def test_each_against_all_others(self):
        # The third one is the first two together, so each follows.
        self.check([0, 1, 2], [(A, B), (A, C), (A, both(B, C))])
        self.check([0, 1, 2], [(A, C), (B, C), (either(A, B), C)])
        # Around a ring each is needed, but for the way back to where it began.
        self.check([], [(A, B), (B, C), (C, A)])
        self.check([3], [(A, B), (B, C), (C, A), (A, C)])

    def test_through_restrictions(self):
        for role in (0, 1):
            self.check([2], [(A, some(role, B)), (B, C), (A, some(role, C))])
            self.check([], [(A, some(role, B)), (B, C), (A, some(1 - role, C))])
            self.check([1], [(A, only(role, BOTTOM)), (A, only(role, B))])
            # The third one brings the first one back, too.
            all_of_it = [(A, some(role, TOP)), (A, only(role, B)), (A, non(only(role, non(B))))]
            self.check([0, 2], all_of_it)
            self.check([0], [(some(role, A), B), (A, BOTTOM)])
            self.check([0], [(A, B), (A, some(role, C)), (C, BOTTOM)])

    def test_no_model(self):
        self.check([0], [(A, B), (TOP, BOTTOM)])
        self.check([1, 2], [(TOP, BOTTOM), (A, B), (B, some(0, A))])
        self.check([], [(TOP, A), (A, BOTTOM)])
        self.check([0, 1, 2], [(TOP, A), (A, BOTTOM), (TOP, BOTTOM)])
        self.check([2], [(TOP, some(0, A)), (A, BOTTOM), (B, C)])

    def test_itself_does_not_count(self):
        # With itself each axiom would follow.
        self.check([], [(A, B), (C, D)])
        self.check([], [(TOP, some(0, A)), (TOP, only(0, B))])

    def test_six_axioms_and_six_atoms(self):
        axioms = [
            (A, some(0, B)), (B, C), (A, some(0, C)), (C, only(1, A)), (B, only(1, A)), (C, C),
        ]
        self.check([2, 4, 5], axioms)
        self.check([0, 1, 3], axioms[::-1])

    def test_after_drop_and_begins(self):
        told = ask_last_whole(line(A, B), line(B, C), line(A, C), drop(0), spare())
        self.assertEqual(told, [0])
        told = ask_last_whole(line(D, A), line(A, B), line(A, B), drop(0), spare())
        self.assertEqual(told, [2, 0, 1])
        told = ask_last_whole(line(A, B), line(A, B), [0], spare())
        self.assertEqual(told, [0])


class Removed(SpareCase):
    """Point 5 itself: without one axiom that is told, under answers as before."""

    AXIOMS = [
        [(A, B), (B, C), (A, C)],
        [(A, B), (A, C), (A, both(B, C))],
        [(A, some(0, B)), (B, C), (A, some(0, C))],
        [(A, some(0, B)), (A, only(0, C)), (A, some(0, C))],
        [(TOP, A), (B, A), (some(0, B), some(0, A))],
        [(A, BOTTOM), (A, B), (some(1, A), B)],
        [(TOP, BOTTOM), (A, B), (TOP, BOTTOM)],
        [(A, B), (B, A), (non(A), non(B)), (A, A)],
    ]
    POOL = [TOP, BOTTOM, A, B, C, non(A), both(A, B), either(B, C), some(0, A), some(0, B)]

    def test_under_answers_as_before(self):
        questions = [under(*pair) for pair in itertools.product(self.POOL, repeat=2)]
        for axioms in self.AXIOMS:
            told = ask_with(axioms, spare())
            self.assertGreater(told[0], 0)
            before = ask_all(axioms, questions)
            for index in told[1:]:
                after = ask_all(axioms[:index] + axioms[index + 1:], questions)
                for old, new in zip(before, after):
                    # Where there was a -7 before, the axiom may have brought it about.
                    self.assertIn(old, (new, -7), (axioms, index))

    def test_told_just_if_under_says_so_without_it(self):
        for axioms in self.AXIOMS:
            found = []
            for index, axiom in enumerate(axioms):
                if ask_with(axioms[:index] + axioms[index + 1:], under(*axiom)) == [1]:
                    found.append(index)
            self.check(found, axioms)

    def test_within_one_list(self):
        calls = [line(A, B), line(B, C), line(A, C), spare(), under(A, C), drop(2), under(A, C),
                 spare(), under(B, C), under(A, B)]
        told = answers([number for call in calls for number in call])
        self.assertEqual(told, [1, 0, 1, 1, 1, 2, 2, 1, 2, 1, 1, 1, 2, 1, 1, 1, 0, 1, 1, 1, 1])

    def test_order_of_the_axioms(self):
        axioms = [(A, some(0, B)), (B, C), (A, some(0, C)), (C, C)]
        for ordered in itertools.permutations(axioms):
            expected = [index for index in range(4) if ordered[index] in axioms[2:]]
            self.check(expected, list(ordered))


if __name__ == "__main__":
    unittest.main()
