"""The rows of the document's examples that speak of line, drop, can and under, in order."""

import unittest

from conceptaxioms.models import answers
from tests.helper import ask

AXIOMS = [
    [1, 5, 2, 0, 6, 0, 0],
    [1, 6, 2, 0, 7, 0, 2, 1],
]
ROWS = [
    ([4, 6, 2, 0, 6, 0, 2, 1], 1),
    ([4, 4, 2, 0, 2, 1], 0),
    ([3, 8, 3, 2, 0, 7, 0, 5, 2, 1], 0),
    ([1, 6, 2, 0, 6, 0, 2, 1], 2),
    ([2, 9], -2),
    ([4, 2, 2, 0], -1),
    ([1, 9, 3, 2, 2, 2, 3, 6, 1, 2, 2], -7),
]


class Examples(unittest.TestCase):

    def test_rows_in_order(self):
        calls = AXIOMS + [call for call, expected in ROWS]
        self.assertEqual(ask(*calls), [0, 1] + [expected for call, expected in ROWS])

    def test_whole_list(self):
        calls = [number for call in AXIOMS for number in call]
        for call, expected in ROWS:
            calls = calls + call
        self.assertEqual(
            answers(calls),
            [1, 0, 1, 1, 1, 1, 1, 0, 1, 0, 1, 2, 1, -2, 1, -1, 1, -7],
        )


if __name__ == "__main__":
    unittest.main()
