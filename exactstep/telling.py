"""How answers are laid out, and the refusals that several calls share."""

from exactstep.fraction import weight
from exactstep.refusals import FAULT_AT_POINT, NO_POINT, NOT_REFUSED, TOO_HEAVY
from exactstep.run import MOST_HELD_WEIGHT

MOST_TOLD_WEIGHT = 6000


def told(head, fractions):
    """The head's numbers, then each fraction's two; or the refusal, if one is too heavy."""
    numbers = list(head)
    for fraction in fractions:
        if weight(fraction) > MOST_TOLD_WEIGHT:
            return [TOO_HEAVY]
        numbers.append(fraction[0])
        numbers.append(fraction[1])
    return numbers


def run_answer(fault):
    if fault is None:
        return [0]
    return [1, fault[0], fault[1]]


def place_refusal(held):
    """Why what hangs on the run at the point can't be told."""
    if held.place is None:
        return NO_POINT
    if held.place.fault is not None:
        return FAULT_AT_POINT
    return NOT_REFUSED


def may_be_taken(point):
    return all([weight(fraction) <= MOST_HELD_WEIGHT for fraction in point])
