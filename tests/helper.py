"""What the tests share: concepts and calls as lists of numbers, and the answers taken apart."""

from conceptaxioms.models import answers

TOP = [0]
BOTTOM = [1]
A = [2, 0]
B = [2, 1]
C = [2, 2]
D = [2, 3]

LARGEST = 4294967295


def both(first, second):
    return [3] + first + second


def either(first, second):
    return [4] + first + second


def non(concept):
    return [5] + concept


def some(role, concept):
    return [6, role] + concept


def only(role, concept):
    return [7, role] + concept


def begins():
    return [0]


def line(*concepts):
    return row_call(1, concepts)


def drop(index):
    return [2, index]


def can(*concepts):
    return row_call(3, concepts)


def under(*concepts):
    return row_call(4, concepts)


def row_call(number, concepts):
    row = joined(concepts)
    return [number, len(row)] + row


def joined(lists):
    return [number for one in lists for number in one]


def ask(*calls):
    """Return the answer of each call, each of which must be one number."""
    told = answers(joined(calls))
    if told[0::2] != [1] * len(calls) or len(told) != 2 * len(calls):
        raise AssertionError(f"not one number for each call: {told}")
    return told[1::2]


def ask_last(*calls):
    """Return the answer of the last call."""
    return ask(*calls)[-1]


def lines(axioms):
    return [line(first, second) for first, second in axioms]


def ask_all(axioms, questions):
    """Answer all questions, twelve a list at most, each list with the axioms ahead."""
    told = []
    for start in range(0, len(questions), 12):
        calls = lines(axioms) + questions[start:start + 12]
        told += ask(*calls)[len(axioms):]
    return told
