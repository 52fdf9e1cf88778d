"""The run of line code at a point."""

from exactstep.fraction import lowest, minus, negative, over, plus, times, weight
from exactstep.lines import CONSTANT, INPUT, MINUS, NEGATIVE, OVER, PLUS, TIMES

DIVISION_BY_ZERO = 1
VALUE_TOO_HEAVY = 2

# Of a line's value, and of a fraction of a point.
MOST_HELD_WEIGHT = 2000


def run(lines, point):
    """Two things: the values of the lines, and None or the fault: its line and its number.

    With a fault the values are those of the lines before it.
    """
    worked_out = []
    for place, line in enumerate(lines):
        value = line_value(line, worked_out, point)
        if value is None:
            return (worked_out, (place, DIVISION_BY_ZERO))
        if weight(value) > MOST_HELD_WEIGHT:
            return (worked_out, (place, VALUE_TOO_HEAVY))
        worked_out.append(value)
    return (worked_out, None)


def line_value(line, worked_out, point):
    """The line's value; None if it divides by 0."""
    if line[0] == INPUT:
        return point[line[1]]
    if line[0] == CONSTANT:
        return lowest(line[1], line[2])
    if line[0] == NEGATIVE:
        return negative(worked_out[line[1]])
    return operation_value(line[0], worked_out[line[1]], worked_out[line[2]])


def operation_value(kind, first, second):
    if kind == PLUS:
        return plus(first, second)
    if kind == MINUS:
        return minus(first, second)
    if kind == TIMES:
        return times(first, second)
    if kind == OVER and second[0] != 0:
        return over(first, second)
    return None
