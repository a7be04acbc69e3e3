"""What the tests share: concepts and calls as lists of numbers, the answers taken apart, and
which elements of a model have a concept."""

from conceptaxioms.models import answers

TOP = [0]
BOTTOM = [1]
A = [2, 0]
B = [2, 1]
C = [2, 2]
D = [2, 3]

LARGEST = 4294967295


def both(first, second):
    return [3] + first + second


def either(first, second):
    return [4] + first + second


def non(concept):
    return [5] + concept


def some(role, concept):
    return [6, role] + concept


def only(role, concept):
    return [7, role] + concept


# Four names and two restrictions: just as many atoms as are allowed.
SIX_ATOMS = both(both(A, B), both(both(C, D), both(some(0, A), some(1, A))))
SEVEN_ATOMS = both(SIX_ATOMS, only(0, A))


def begins():
    return [0]


def line(*concepts):
    return row_call(1, concepts)


def drop(index):
    return [2, index]


def can(*concepts):
    return row_call(3, concepts)


def under(*concepts):
    return row_call(4, concepts)


def model(*concepts):
    return row_call(5, concepts)


def against(*concepts):
    return row_call(6, concepts)


def names():
    return [7]


def spare():
    return [8]


def row_call(number, concepts):
    row = joined(concepts)
    return [number, len(row)] + row


def joined(lists):
    return [number for one in lists for number in one]


def ask_whole(*calls):
    """Return the answer of each call, as the list of its numbers."""
    told = answers(joined(calls))
    found = []
    place = 0
    while place < len(told):
        end = place + 1 + told[place]
        found.append(told[place + 1:end])
        place = end
    if place != len(told) or len(found) != len(calls):
        raise AssertionError(f"not one answer for each call: {told}")
    return found


def ask(*calls):
    """Return the answer of each call, each of which must be one number."""
    found = ask_whole(*calls)
    if [len(answer) for answer in found] != [1] * len(calls):
        raise AssertionError(f"not one number for each call: {found}")
    return joined(found)


def ask_last(*calls):
    """Return the answer of the last call, which must be one number, as all others."""
    return ask(*calls)[-1]


def ask_last_whole(*calls):
    """Return the answer of the last call, as the list of its numbers."""
    return ask_whole(*calls)[-1]


def lines(axioms):
    return [line(first, second) for first, second in axioms]


def ask_all_whole(axioms, questions):
    """Answer all questions, twelve a list at most, each list with the axioms ahead.

    No axiom may be refused, so that a test does not ask with fewer than it names.
    """
    told = []
    for start in range(0, len(questions), 12):
        found = ask_whole(*lines(axioms), *questions[start:start + 12])
        if joined(found[:len(axioms)]) != list(range(len(axioms))):
            raise AssertionError(f"an axiom is refused: {axioms}")
        told += found[len(axioms):]
    return told


def ask_with(axioms, question):
    """Answer one question with the axioms ahead, none of which may be refused."""
    return ask_all_whole(axioms, [question])[0]


def ask_all(axioms, questions):
    """Answer all questions, each of which must be answered with one number."""
    told = ask_all_whole(axioms, questions)
    if [len(answer) for answer in told] != [1] * len(questions):
        raise AssertionError(f"not one number for each question: {told}")
    return joined(told)


def read_model(answer):
    """Return the elements that model or against tells, each as (names, relations).

    The names are their sum, the relations a list of (role, index of the other element).
    """
    elements = []
    place = 1
    for index in range(answer[0]):
        names_sum, count = answer[place:place + 2]
        pairs = answer[place + 2:place + 2 + 2 * count]
        elements.append((names_sum, list(zip(pairs[0::2], pairs[1::2]))))
        place += 2 + 2 * count
    if place != len(answer):
        raise AssertionError(f"not a model: {answer}")
    return elements


def having(concept, elements):
    """Return for each of the elements whether it has the concept."""
    told, length = having_first(concept, elements)
    if length != len(concept):
        raise AssertionError(f"not one concept: {concept}")
    return told


def having_first(numbers, elements):
    """Return for each element whether it has the concept ahead, and that concept's length."""
    first = numbers[0]
    if first in (0, 1):
        return [first == 0] * len(elements), 1
    if first == 2:
        return [names_sum >> numbers[1] & 1 == 1 for names_sum, relations in elements], 2
    if first == 5:
        one, length = having_first(numbers[1:], elements)
        return [not has for has in one], length + 1
    if first in (3, 4):
        one, length = having_first(numbers[1:], elements)
        other, more = having_first(numbers[1 + length:], elements)
        pick = all if first == 3 else any
        return [pick(pair) for pair in zip(one, other)], 1 + length + more
    inner, length = having_first(numbers[2:], elements)
    pick = any if first == 6 else all
    told = [
        pick(inner[index] for role, index in relations if role == numbers[1])
        for names_sum, relations in elements
    ]
    return told, length + 2


def holds(axiom, elements):
    """Tell whether each element that has the first concept has the second one as well."""
    pairs = zip(having(axiom[0], elements), having(axiom[1], elements))
    return all(second for first, second in pairs if first)
