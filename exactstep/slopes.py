"""The derivatives of lines by the inputs, and the straight picture that they give."""

from exactstep.fraction import ONE, ZERO, minus, negative, over, plus, times
from exactstep.lines import CONSTANT, INPUT, MINUS, NEGATIVE, PLUS, TIMES


def table_at(lines, outs, inputs, line_values):
    """A row for each result, in it the derivative by each input. The run had no fault."""
    slopes = []
    for place, line in enumerate(lines):
        slopes.append([line_slope(line, place, by, slopes, line_values) for by in range(inputs)])
    return [slopes[out] for out in outs]


def line_slope(line, place, by, slopes, line_values):
    """The derivative of the line at the place by one input, from those of the lines before it."""
    if line[0] == INPUT:
        return ONE if line[1] == by else ZERO
    if line[0] == CONSTANT:
        return ZERO
    first = slopes[line[1]][by]
    if line[0] == NEGATIVE:
        return negative(first)
    second = slopes[line[2]][by]
    if line[0] == PLUS:
        return plus(first, second)
    if line[0] == MINUS:
        return minus(first, second)
    second_value = line_values[line[2]]
    if line[0] == TIMES:
        return plus(times(first, second_value), times(line_values[line[1]], second))
    # From quotient * second = first: the line's own value saves the square in the usual rule.
    return over(minus(first, times(line_values[place], second)), second_value)


def straight_picture(table, results, step):
    """What the straight picture tells of each result after the step."""
    pictures = []
    for row, result in zip(table, results):
        told = result
        for slope, part in zip(row, step):
            told = plus(told, times(slope, part))
        pictures.append(told)
    return pictures
