"""The rows of the document's examples, in order, in one list of calls."""

import unittest

from conceptaxioms.models import answers
from tests.helper import ask_whole, joined

AXIOMS = [
    [1, 5, 2, 0, 6, 0, 0],
    [1, 6, 2, 0, 7, 0, 2, 1],
]
THREE_ELEMENTS = [3, 1, 1, 0, 1, 2, 1, 0, 2, 0, 1, 0, 2]
ROWS = [
    ([4, 6, 2, 0, 6, 0, 2, 1], [1]),
    ([4, 4, 2, 0, 2, 1], [0]),
    ([6, 4, 2, 0, 2, 1], THREE_ELEMENTS),
    ([3, 8, 3, 2, 0, 7, 0, 5, 2, 1], [0]),
    ([5, 2, 2, 0], THREE_ELEMENTS),
    ([7], [1, 1, 0, 0, 0, 0, 1, 0, 0, 0, 0, 1, 0, 0, 0, 0, 1]),
    ([8], [0]),
    ([1, 6, 2, 0, 6, 0, 2, 1], [2]),
    ([8], [2, 0, 2]),
    ([2, 9], [-2]),
    ([4, 2, 2, 0], [-1]),
    ([1, 9, 3, 2, 2, 2, 3, 6, 1, 2, 2], [-7]),
]


class Examples(unittest.TestCase):

    def test_rows_in_order(self):
        calls = AXIOMS + [call for call, expected in ROWS]
        self.assertEqual(ask_whole(*calls), [[0], [1]] + [expected for call, expected in ROWS])

    def test_whole_list(self):
        calls = joined(AXIOMS + [call for call, expected in ROWS])
        self.assertEqual(
            answers(calls),
            [
                1, 0, 1, 1, 1, 1, 1, 0,
                13, 3, 1, 1, 0, 1, 2, 1, 0, 2, 0, 1, 0, 2,
                1, 0,
                13, 3, 1, 1, 0, 1, 2, 1, 0, 2, 0, 1, 0, 2,
                17, 1, 1, 0, 0, 0, 0, 1, 0, 0, 0, 0, 1, 0, 0, 0, 0, 1,
                1, 0, 1, 2, 3, 2, 0, 2, 1, -2, 1, -1, 1, -7,
            ],
        )

    def test_each_row_alone(self):
        for row, (call, expected) in enumerate(ROWS):
            added = AXIOMS if row <= 7 else AXIOMS + [ROWS[7][0]]
            self.assertEqual(ask_whole(*added, call)[-1], expected, call)


if __name__ == "__main__":
    unittest.main()
