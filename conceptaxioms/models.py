"""The interface: a list of calls is read, and their answers are told in one list."""

from conceptaxioms.concepts import NotConcepts
from conceptaxioms.session import NoModel, NoSuchAxiom, Session, TooMany

BEGINS = 0
LINE = 1
DROP = 2
CAN = 3
UNDER = 4
MODEL = 5
AGAINST = 6
NAMES = 7
SPARE = 8


class UnknownCall(ValueError):
    """No call has this number."""


def answers(calls):
    """Return, for each of the calls in order, how many numbers it answers, and these."""
    session = Session()
    told = []
    place = 0
    while place < len(calls):
        end = call_end(calls, place)
        answer = answer_or_code(session, calls[place:end])
        told.append(len(answer))
        told.extend(answer)
        place = end
    return told


def call_end(calls, start):
    """Return the place just behind the call that begins at start."""
    if calls[start] in (BEGINS, NAMES, SPARE):
        return start + 1
    if calls[start] == DROP:
        return start + 2
    if calls[start] in (LINE, CAN, UNDER, MODEL, AGAINST):
        return start + 2 + calls[start + 1]
    raise UnknownCall("no call has this number")


def answer_or_code(session, call):
    """Return the numbers that the call answers: if it is refused, the code of the error."""
    try:
        return answer_of(session, call)
    except NotConcepts:
        return [-1]
    except NoSuchAxiom:
        return [-2]
    except NoModel:
        return [-6]
    except TooMany:
        return [-7]


def answer_of(session, call):
    """Carry out one call, given as its own numbers, and return what it answers."""
    if call[0] == BEGINS:
        return session.begins()
    if call[0] == DROP:
        return session.drop(call[1])
    if call[0] == NAMES:
        return session.names()
    if call[0] == SPARE:
        return session.spare()
    return answer_to_row(session, call[0], call[2:])


def answer_to_row(session, number, row):
    """Carry out the call with this number and row, and return what it answers."""
    if number == LINE:
        return session.line(row)
    if number == CAN:
        return session.can(row)
    if number == UNDER:
        return session.under(row)
    if number == MODEL:
        return session.model(row)
    return session.against(row)
