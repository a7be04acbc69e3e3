"""How the calls are read and how their answers are told."""

import unittest

from conceptaxioms.models import answers
from tests.helper import A, B, BOTTOM, C, TOP, ask, begins, can, drop, line, non, under


class OneCall(unittest.TestCase):

    def test_begins(self):
        self.assertEqual(answers([0]), [1, 0])

    def test_line(self):
        self.assertEqual(answers([1, 4, 2, 0, 2, 1]), [1, 0])

    def test_drop(self):
        self.assertEqual(answers([1, 2, 0, 0, 2, 0]), [1, 0, 1, 0])

    def test_can(self):
        self.assertEqual(answers([3, 2, 2, 0]), [1, 1])
        self.assertEqual(answers([3, 1, 1]), [1, 0])

    def test_under(self):
        self.assertEqual(answers([4, 4, 2, 0, 2, 0]), [1, 1])
        self.assertEqual(answers([4, 4, 2, 0, 2, 1]), [1, 0])

    def test_refusal(self):
        self.assertEqual(answers([3, 0]), [1, -1])
        self.assertEqual(answers([2, 0]), [1, -2])


class SeveralCalls(unittest.TestCase):

    def test_whole_list(self):
        calls = [
            1, 4, 2, 0, 2, 1,  # line: name 0, name 1
            1, 4, 2, 1, 2, 2,  # line: name 1, name 2
            4, 4, 2, 0, 2, 2,  # under: name 0, name 2
            2, 1,              # drop the second axiom
            4, 4, 2, 0, 2, 2,
            3, 5, 3, 2, 0, 5, 0,
            0,
            4, 4, 2, 0, 2, 1,
            2, 0,
            3, 2, 2, 0,
        ]
        self.assertEqual(
            answers(calls),
            [1, 0, 1, 1, 1, 1, 1, 1, 1, 0, 1, 0, 1, 0, 1, 0, 1, -2, 1, 1],
        )

    def test_empty_rows_between_calls(self):
        calls = [3, 0, 1, 0, 4, 0, 0, 2, 0, 3, 1, 0]
        self.assertEqual(answers(calls), [1, -1, 1, -1, 1, -1, 1, 0, 1, -2, 1, 1])

    def test_wrong_rows_do_not_shift_the_calls_behind(self):
        calls = [3, 5, 9, 9, 9, 9, 9, 3, 3, 0, 0, 0, 4, 2, 0, 0]
        self.assertEqual(answers(calls), [1, -1, 1, -1, 1, 1])

    def test_sixty_calls(self):
        calls = []
        expected = []
        for step in range(20):
            calls = calls + line(A, B) + drop(0) + begins()
            expected = expected + [1, 0, 1, 0, 1, 0]
        self.assertEqual(answers(calls), expected)


class Begins(unittest.TestCase):

    def test_removes_all_axioms(self):
        told = ask(
            line(A, B), line(B, C), under(A, C), begins(),
            under(A, B), under(B, C), under(A, C), drop(0),
        )
        self.assertEqual(told, [0, 1, 1, 0, 0, 0, 0, -2])

    def test_indexes_start_again(self):
        told = ask(line(A, B), line(B, C), begins(), line(C, A), line(A, B), under(C, B))
        self.assertEqual(told, [0, 1, 0, 0, 1, 1])

    def test_makes_room_for_axioms_and_atoms(self):
        full = [line(TOP, TOP)] * 6
        told = ask(*full, line(A, B), begins(), line(A, B), can(A))
        self.assertEqual(told, [0, 1, 2, 3, 4, 5, -7, 0, 0, 1])

    def test_first_and_twice(self):
        self.assertEqual(ask(begins(), begins(), line(A, BOTTOM), can(A)), [0, 0, 0, 0])


class NothingKept(unittest.TestCase):

    CALLS = line(A, B) + can(non(A)) + line([4, 2]) + under(A, B) + drop(7) + drop(0) + [3, 0]

    def test_list_is_unchanged(self):
        calls = list(self.CALLS)
        answers(calls)
        self.assertEqual(calls, self.CALLS)

    def test_same_list_twice(self):
        calls = list(self.CALLS)
        first = answers(calls)
        second = answers(calls)
        self.assertEqual(first, [1, 0, 1, 1, 1, -1, 1, 1, 1, -2, 1, 0, 1, -1])
        self.assertEqual(second, first)

    def test_axioms_do_not_outlive_their_list(self):
        self.assertEqual(answers(line(A, BOTTOM) + can(A)), [1, 0, 1, 0])
        self.assertEqual(answers(can(A) + drop(0) + line(A, A)), [1, 1, 1, -2, 1, 0])

    def test_answers_are_plain_whole_numbers(self):
        told = answers(self.CALLS)
        self.assertEqual([type(number) for number in told], [int] * len(told))
        self.assertIs(type(told), list)


if __name__ == "__main__":
    unittest.main()
