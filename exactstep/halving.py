"""The call halve: an interval in which a result changes its sign is halved."""

from exactstep.fraction import HALF, plus, read_fractions, times
from exactstep.refusals import NOT_ONE_INPUT, NOT_REFUSED, OUT_OF_RANGE, WRONG_FORM
from exactstep.run import run
from exactstep.telling import told

MOST_TIMES = 100


def answer_halve(held, result, many, numbers):
    ends = read_fractions(numbers, 2)
    refusal = halve_refusal(held, result, many, ends)
    if refusal != NOT_REFUSED:
        return [refusal]
    return between(held.lines, held.outs[result], many, ends[0], ends[1])


def halve_refusal(held, result, many, ends):
    """ends are as read_fractions gives them."""
    if result < 0 or result >= len(held.outs) or many < 0 or many > MOST_TIMES:
        return OUT_OF_RANGE
    if ends is None:
        return WRONG_FORM
    if held.inputs != 1:
        return NOT_ONE_INPUT
    return NOT_REFUSED


def between(lines, out, many, first, second):
    """The answer for the line out between two ends."""
    first_value = value_at(lines, out, first)
    second_value = value_at(lines, out, second)
    if first_value is None or second_value is None:
        return [0]
    if first_value[0] == 0:
        return told([1], [first])
    if second_value[0] == 0:
        return told([1], [second])
    first_is_below = first_value[0] < 0
    if first_is_below == (second_value[0] < 0):
        return [0]
    return halved(lines, out, many, first, second, first_is_below)


def halved(lines, out, many, first, second, first_is_below):
    """The answer where the line out has one sign at the first end and the other at the second."""
    left = first
    right = second
    for turn in range(many):
        middle = times(plus(left, right), HALF)
        value = value_at(lines, out, middle)
        if value is None:
            return [0]
        if value[0] == 0:
            return told([1], [middle])
        if (value[0] < 0) == first_is_below:
            left = middle
        else:
            right = middle
    return told([2], [left, right])


def value_at(lines, out, fraction):
    """The value of the line out where the one input is the fraction; None if the run has a fault."""
    ran = run(lines, [fraction])
    if ran[1] is not None:
        return None
    return ran[0][out]
