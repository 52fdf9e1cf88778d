"""The desk: calls on one new object, handed in and answered as lists of whole numbers."""

from exactstep.calls import answer_code, answer_error, answer_point, answer_results, answer_step, answer_table
from exactstep.halving import answer_halve
from exactstep.held import Held
from exactstep.moves import answer_descend, answer_round, answer_take

CODE = 0
POINT = 1
RESULTS = 2
TABLE = 3
STEP = 4
TAKE = 5
DESCEND = 6
ERROR = 7
HALVE = 8

# By the call's number: how many whole numbers stand behind it, and how many rows behind these.
FORMS = ((1, 2), (0, 1), (0, 0), (0, 0), (1, 0), (3, 0), (2, 0), (0, 1), (2, 1), (1, 0))


class UnknownCall(ValueError):
    """There's no call with this number."""


def answers(calls):
    """For each call how many numbers are answered, then these."""
    held = Held()
    answered = []
    place = 0
    while place < len(calls):
        read = read_call(calls, place)
        answer = answer_call(held, read[0])
        answered.append(len(answer))
        answered.extend(answer)
        place = read[1]
    return answered


def read_call(calls, place):
    """Two things: the call's number, whole numbers and rows in one list, and the place behind it."""
    number = calls[place]
    if number < 0 or number >= len(FORMS):
        raise UnknownCall(f"call {number}")
    behind = place + 1 + FORMS[number][0]
    parts = calls[place:behind]
    for row in range(FORMS[number][1]):
        start = behind + 1
        behind = start + calls[behind]
        parts.append(calls[start:behind])
    return (parts, behind)


def answer_call(held, parts):
    if parts[0] == CODE:
        return answer_code(held, parts[1], parts[2], parts[3])
    if parts[0] == POINT:
        return answer_point(held, parts[1])
    if parts[0] == RESULTS:
        return answer_results(held)
    if parts[0] == TABLE:
        return answer_table(held)
    if parts[0] == STEP:
        return answer_step(held, parts[1])
    if parts[0] == TAKE:
        return answer_take(held, parts[1], parts[2], parts[3])
    if parts[0] == DESCEND:
        return answer_descend(held, parts[1], parts[2])
    if parts[0] == ERROR:
        return answer_error(held, parts[1])
    if parts[0] == HALVE:
        return answer_halve(held, parts[1], parts[2], parts[3])
    return answer_round(held, parts[1])
