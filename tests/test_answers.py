"""How the calls are read and how their answers are told."""

import time
import unittest

from conceptaxioms.models import UnknownCall, answers
from tests.helper import A, B, BOTTOM, C, TOP, against, ask, ask_whole, begins, both, can, drop
from tests.helper import either, line, model, names, non, only, some, spare, under


class OneCall(unittest.TestCase):

    def test_begins(self):
        self.assertEqual(answers([0]), [1, 0])

    def test_line(self):
        self.assertEqual(answers([1, 4, 2, 0, 2, 1]), [1, 0])

    def test_drop(self):
        self.assertEqual(answers([1, 2, 0, 0, 2, 0]), [1, 0, 1, 0])

    def test_can(self):
        self.assertEqual(answers([3, 2, 2, 0]), [1, 1])
        self.assertEqual(answers([3, 1, 1]), [1, 0])

    def test_under(self):
        self.assertEqual(answers([4, 4, 2, 0, 2, 0]), [1, 1])
        self.assertEqual(answers([4, 4, 2, 0, 2, 1]), [1, 0])

    def test_model(self):
        self.assertEqual(answers([5, 4, 6, 1, 2, 3]), [7, 2, 0, 1, 1, 1, 8, 0])

    def test_against(self):
        self.assertEqual(answers([6, 6, 6, 1, 2, 3, 2, 3]), [7, 2, 0, 1, 1, 1, 8, 0])

    def test_names(self):
        told = [17, 1, 1, 0, 0, 0, 0, 1, 0, 0, 0, 0, 1, 0, 0, 0, 0, 1]
        self.assertEqual(answers([7]), told)

    def test_spare(self):
        self.assertEqual(answers([8]), [1, 0])
        self.assertEqual(answers([1, 4, 2, 0, 2, 0, 8]), [1, 0, 2, 1, 0])

    def test_refusal(self):
        self.assertEqual(answers([3, 0]), [1, -1])
        self.assertEqual(answers([2, 0]), [1, -2])
        self.assertEqual(answers([5, 0]), [1, -1])
        self.assertEqual(answers([6, 0]), [1, -1])
        self.assertEqual(answers([5, 1, 1]), [1, -6])
        self.assertEqual(answers([6, 2, 0, 0]), [1, -6])


class SeveralCalls(unittest.TestCase):

    def test_whole_list(self):
        calls = [
            1, 4, 2, 0, 2, 1,  # line: name 0, name 1
            1, 4, 2, 1, 2, 2,  # line: name 1, name 2
            4, 4, 2, 0, 2, 2,  # under: name 0, name 2
            2, 1,              # drop the second axiom
            4, 4, 2, 0, 2, 2,
            3, 5, 3, 2, 0, 5, 0,
            0,
            4, 4, 2, 0, 2, 1,
            2, 0,
            3, 2, 2, 0,
        ]
        self.assertEqual(
            answers(calls),
            [1, 0, 1, 1, 1, 1, 1, 1, 1, 0, 1, 0, 1, 0, 1, 0, 1, -2, 1, 1],
        )

    def test_whole_list_of_all_calls(self):
        calls = [
            5, 2, 2, 0,              # model: name 0
            1, 5, 2, 0, 6, 0, 0,     # line: name 0, 6 0 0
            5, 2, 2, 0,
            8,                       # spare
            1, 6, 2, 0, 7, 0, 2, 2,  # line: name 0, 7 0 2 2
            6, 4, 2, 0, 2, 1,        # against: name 0, name 1
            4, 6, 2, 0, 6, 0, 2, 2,  # under: name 0, 6 0 2 2
            1, 6, 2, 0, 6, 0, 2, 2,  # line: the same
            8,
            6, 6, 2, 0, 6, 0, 2, 2,  # against: the same
            7,                       # names
            2, 0,                    # drop: the first axiom
            8,
            1, 3, 2, 2, 1,           # line: name 2, 1
            7,
            3, 2, 2, 0,              # can: name 0
            5, 2, 2, 0,
            0,                       # begins
            5, 2, 2, 2,
            7,
        ]
        self.assertEqual(
            answers(calls),
            [
                3, 1, 1, 0,
                1, 0,
                7, 2, 1, 1, 0, 1, 0, 0,
                1, 0,
                1, 1,
                13, 3, 1, 1, 0, 1, 4, 1, 0, 2, 0, 1, 0, 2,
                1, 1,
                1, 2,
                3, 2, 0, 2,
                1, -6,
                17, 1, 1, 0, 0, 0, 0, 1, 0, 0, 0, 0, 1, 0, 0, 0, 0, 1,
                1, 2,
                1, 0,
                1, 2,
                17, 1, 1, 1, 1, 1, 0, 1, 0, 0, 1, 1, 1, 1, 0, 0, 0, 1,
                1, 0,
                1, -6,
                1, 0,
                3, 1, 4, 0,
                17, 1, 1, 0, 0, 0, 0, 1, 0, 0, 0, 0, 1, 0, 0, 0, 0, 1,
            ],
        )

    def test_empty_rows_between_calls(self):
        calls = [3, 0, 1, 0, 4, 0, 5, 0, 6, 0, 8, 0, 2, 0, 3, 1, 0]
        told = [1, -1, 1, -1, 1, -1, 1, -1, 1, -1, 1, 0, 1, 0, 1, -2, 1, 1]
        self.assertEqual(answers(calls), told)

    def test_wrong_rows_do_not_shift_the_calls_behind(self):
        calls = [3, 5, 9, 9, 9, 9, 9, 3, 3, 0, 0, 0, 4, 2, 0, 0]
        self.assertEqual(answers(calls), [1, -1, 1, -1, 1, 1])
        calls = [5, 5, 9, 9, 9, 9, 9, 6, 3, 7, 7, 8, 8, 5, 3, 7, 8, 8, 6, 2, 0, 1]
        self.assertEqual(answers(calls), [1, -1, 1, -1, 1, 0, 1, -1, 3, 1, 0, 0])

    def test_longest_row(self):
        for number in (3, 5):
            told = answers([number, 30] + [5] * 28 + A + [8])
            self.assertEqual(told[-2:], [1, 0])
            self.assertGreater(told[1], 0)
            self.assertEqual(answers([number, 30] + [5] * 30 + [8]), [1, -1, 1, 0])
        for number in (1, 4, 6):
            self.assertEqual(answers([number, 30] + [0] * 30 + [2, 0]), [1, -1, 1, -2])

    def test_sixty_calls(self):
        calls = []
        expected = []
        for step in range(20):
            calls = calls + line(A, B) + drop(0) + begins()
            expected = expected + [1, 0, 1, 0, 1, 0]
        self.assertEqual(answers(calls), expected)


class Begins(unittest.TestCase):

    def test_removes_all_axioms(self):
        told = ask(
            line(A, B), line(B, C), under(A, C), begins(),
            under(A, B), under(B, C), under(A, C), drop(0),
        )
        self.assertEqual(told, [0, 1, 1, 0, 0, 0, 0, -2])

    def test_indexes_start_again(self):
        told = ask(line(A, B), line(B, C), begins(), line(C, A), line(A, B), under(C, B))
        self.assertEqual(told, [0, 1, 0, 0, 1, 1])

    def test_makes_room_for_axioms_and_atoms(self):
        full = [line(TOP, TOP)] * 6
        told = ask(*full, line(A, B), begins(), line(A, B), can(A))
        self.assertEqual(told, [0, 1, 2, 3, 4, 5, -7, 0, 0, 1])

    def test_first_and_twice(self):
        self.assertEqual(ask(begins(), begins(), line(A, BOTTOM), can(A)), [0, 0, 0, 0])


class NoSuchCall(unittest.TestCase):

    def test_unknown_number(self):
        for calls in ([9], [9, 0], [0, 9, 2, 0, 0], names() + [100]):
            with self.assertRaises(UnknownCall):
                answers(calls)


class NothingKept(unittest.TestCase):

    CALLS = line(A, B) + can(non(A)) + line([4, 2]) + under(A, B) + drop(7) + drop(0) + [3, 0]
    NEW_CALLS = line(A, some(1, B)) + model(A) + against(A, B) + spare() + names() + model(BOTTOM)

    def test_list_is_unchanged(self):
        calls = list(self.CALLS)
        answers(calls)
        self.assertEqual(calls, self.CALLS)

    def test_same_list_twice(self):
        calls = list(self.CALLS)
        first = answers(calls)
        second = answers(calls)
        self.assertEqual(first, [1, 0, 1, 1, 1, -1, 1, 1, 1, -2, 1, 0, 1, -1])
        self.assertEqual(second, first)

    def test_new_calls(self):
        calls = list(self.NEW_CALLS)
        first = answers(calls)
        self.assertEqual(calls, self.NEW_CALLS)
        self.assertEqual(answers(calls), first)
        self.assertEqual(calls, self.NEW_CALLS)
        # A 0, some 1, B 2: kind 3 leads to 4, which demands nothing.
        two = [7, 2, 1, 1, 1, 1, 2, 0]
        free = [17, 1, 1, 0, 0, 0, 0, 1, 0, 0, 0, 0, 1, 0, 0, 0, 0, 1]
        self.assertEqual(first, [1, 0] + two + two + [1, 0] + free + [1, -6])

    def test_axioms_do_not_outlive_their_list(self):
        answers(line(A, B) + line(A, B))
        self.assertEqual(answers(spare() + model(A)), [1, 0, 3, 1, 1, 0])
        self.assertEqual(answers(line(A, BOTTOM) + can(A)), [1, 0, 1, 0])
        self.assertEqual(answers(can(A) + drop(0) + line(A, A)), [1, 1, 1, -2, 1, 0])

    def test_answers_are_plain_whole_numbers(self):
        told = answers(self.CALLS + self.NEW_CALLS)
        self.assertEqual([type(number) for number in told], [int] * len(told))
        self.assertIs(type(told), list)


class LongList(unittest.TestCase):
    """Sixty calls with twelve questions, three of them spare, over six axioms and six atoms."""

    AXIOMS = [
        (A, some(0, B)), (B, some(1, A)), (some(0, B), only(1, non(B))), (either(A, B), C),
        (both(A, B), BOTTOM), (A, C),
    ]
    QUESTIONS = [
        spare(), names(), model(A), against(C, B), under(A, C), spare(), can(both(A, B)),
        names(), model(both(C, non(A))), against(A, some(0, B)), names(), spare(),
    ]

    def test_answers(self):
        alone = [ask_whole(*[line(*axiom) for axiom in self.AXIOMS], question)[-1]
                 for question in self.QUESTIONS]
        # The first axiom is dropped and the last one added again and again, which turns them
        # round, and at the last all of them stand as at first.
        turned = [drop(0), line(*self.AXIOMS[0])]
        for axiom in self.AXIOMS[1:]:
            turned += [drop(0), line(*axiom)]
        calls = [line(*axiom) for axiom in self.AXIOMS] + self.QUESTIONS[:6]
        calls += turned + turned + turned + self.QUESTIONS[6:] + [drop(6)] * 6
        self.assertEqual(len(calls), 60)
        start = time.perf_counter()
        told = ask_whole(*calls)
        self.assertLess(time.perf_counter() - start, 5)
        self.assertEqual(told[:6], [[0], [1], [2], [3], [4], [5]])
        self.assertEqual(told[6:12] + told[48:54], alone)
        self.assertEqual(told[12:48], [[5]] * 36)
        self.assertEqual(told[54:], [[-2]] * 6)


if __name__ == "__main__":
    unittest.main()
