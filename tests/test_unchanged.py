"""Point 9: a refused call changes nothing; and what is only asked changes nothing either."""

import unittest

from tests.helper import A, B, BOTTOM, C, D, LARGEST, SEVEN_ATOMS, SIX_ATOMS, TOP, against, ask
from tests.helper import ask_whole, begins, both, can, drop, either, line, model, names, non, only, some
from tests.helper import spare, under


class UnchangedCase(unittest.TestCase):

    # Eleven questions, so that there is room for the one ahead of them.
    BEHIND = [
        can(both(A, non(B))), under(A, some(0, B)), model(either(B, A)), names(), spare(),
        line(B, C), under(A, C), drop(0), under(A, B), against(B, A), drop(1), line(C, D),
        under(B, D), spare(), model(SIX_ATOMS),
    ]

    def told_with(self, ahead, call):
        """Return what the call answers, after it is checked that it changes nothing behind it."""
        without = ask_whole(*ahead, *self.BEHIND)
        told = ask_whole(*ahead, call, *self.BEHIND)
        place = len(ahead)
        self.assertEqual(told[:place] + told[place + 1:], without, call)
        return told[place]


class Refused(UnchangedCase):

    def check(self, ahead, refused, code):
        self.assertEqual(self.told_with(ahead, refused), [code], refused)

    def check_everywhere(self, refused, code):
        self.check([], refused, code)
        self.check([line(A, B)], refused, code)
        self.check([line(A, B), line(B, some(0, B)), line(D, non(A))], refused, code)

    def test_wrong_numbers(self):
        for numbers in ([], [2, 0], [2, 0, 2], [2, 0, 2, 4], [2, 0, 2, 1, 2, 2], [8, 0], [6, 2, 0, 0]):
            self.check_everywhere(line(numbers), -1)
            self.check_everywhere(under(numbers), -1)
            self.check_everywhere(against(numbers), -1)
        for numbers in ([], [2], [2, 4], [2, 0, 0], [8], [3, 2, 0], [7, 2, 2, 0]):
            self.check_everywhere(can(numbers), -1)
            self.check_everywhere(model(numbers), -1)

    def test_no_such_axiom(self):
        self.check([], drop(0), -2)
        self.check([line(A, B)], drop(1), -2)
        self.check([line(A, B), line(B, some(0, B))], drop(2), -2)
        self.check_everywhere(drop(LARGEST), -2)

    def test_too_many_atoms(self):
        self.check_everywhere(line(SEVEN_ATOMS, BOTTOM), -7)
        self.check_everywhere(line(TOP, SEVEN_ATOMS), -7)
        self.check_everywhere(can(SEVEN_ATOMS), -7)
        self.check_everywhere(under(SEVEN_ATOMS, BOTTOM), -7)
        self.check_everywhere(model(SEVEN_ATOMS), -7)
        self.check_everywhere(against(SEVEN_ATOMS, BOTTOM), -7)
        self.check_everywhere(against(BOTTOM, SEVEN_ATOMS), -7)

    def test_no_model(self):
        for concept in (BOTTOM, both(A, non(A)), some(1, both(C, non(C)))):
            self.check_everywhere(model(concept), -6)
        for first, second in ((A, A), (BOTTOM, some(1, C)), (C, TOP), (both(A, B), B)):
            self.check_everywhere(against(first, second), -6)
        for ahead in ([], [line(A, B)]):
            self.check(ahead, model(both(SIX_ATOMS, BOTTOM)), -6)
            self.check(ahead, against(SIX_ATOMS, A), -6)
            self.check(ahead, against(BOTTOM, SIX_ATOMS), -6)
        self.check([line(TOP, BOTTOM)], model(TOP), -6)
        self.check([line(A, B)], against(A, B), -6)

    def test_too_many_axioms(self):
        full = [line(A, B), line(TOP, TOP), line(B, B), line(C, C), line(A, A), line(B, some(0, B))]
        self.check(full, line(TOP, BOTTOM), -7)
        self.check(full, line(A, BOTTOM), -7)

    def test_several_refusals_together(self):
        told = ask(line(A, B), drop(1), line(B), can([]), line(SEVEN_ATOMS, A), under(A, B),
                   drop(5), line(B, C), begins(), drop(0), line(A, B))
        self.assertEqual(told, [0, -2, -1, -1, -7, 1, -2, 1, 0, -2, 0])
        told = ask_whole(line(A, B), model([2]), model(SEVEN_ATOMS), model(BOTTOM), against(A),
                         against(SEVEN_ATOMS, A), against(A, B), model(A), names(), spare(), drop(0))
        self.assertEqual(told, [
            [0], [-1], [-7], [-6], [-1], [-7], [-6], [1, 3, 0],
            [1, 1, 1, 0, 0, 0, 1, 0, 0, 0, 0, 1, 0, 0, 0, 0, 1], [0], [0],
        ])


class Asked(UnchangedCase):

    def test_answered_questions(self):
        for ahead in (
            [], [line(A, B)], [line(A, B), line(A, B)], [line(TOP, BOTTOM), line(A, B)],
            [line(A, B), line(B, some(0, B)), line(D, non(A))],
        ):
            for question in (
                can(A), under(A, B), model(TOP), model(some(1, C)), model(SIX_ATOMS),
                against(C, A), against(TOP, BOTTOM), against(only(0, C), some(1, C)), names(),
                spare(),
            ):
                self.told_with(ahead, question)

    def test_names_of_questions_are_not_kept(self):
        told = ask_whole(names(), model(both(A, C)), against(C, A), names(), spare(), names())
        self.assertEqual(told[3], told[0])
        self.assertEqual(told[5], told[0])
        self.assertEqual(told[4], [0])


if __name__ == "__main__":
    unittest.main()
