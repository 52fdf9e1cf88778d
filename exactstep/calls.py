"""What each call does to the object, and what it answers: a list of numbers."""

from exactstep.fraction import quick_lowest, read_fractions, sum_of_squares, weight
from exactstep.held import results_here, step_here, table_here
from exactstep.lines import read_lines, uses_fit
from exactstep.refusals import FAULT_AT_POINT, NO_POINT, NOT_REFUSED, OUT_OF_RANGE
from exactstep.refusals import TOO_HEAVY, TOO_MANY_LINES, WRONG_FORM, WRONG_USE
from exactstep.run import MOST_HELD_WEIGHT
from exactstep.slopes import straight_picture
from exactstep.solve import LEAST_SQUARES, NEWTON

MOST_INPUTS = 4
MOST_LINES = 60
MOST_RESULTS = 6
MOST_TOLD_WEIGHT = 6000


def answer_code(held, inputs, numbers, outs):
    lines = read_lines(numbers)
    refusal = code_refusal(inputs, lines, outs)
    if refusal != NOT_REFUSED:
        return [refusal]
    held.hold_code(inputs, lines, outs)
    return [len(lines)]


def code_refusal(inputs, lines, outs):
    """lines are as read_lines gives them."""
    if inputs < 1 or inputs > MOST_INPUTS:
        return OUT_OF_RANGE
    if lines is None or not are_outs(outs, len(lines)):
        return WRONG_FORM
    if len(lines) > MOST_LINES:
        return TOO_MANY_LINES
    if not uses_fit(lines, inputs):
        return WRONG_USE
    return NOT_REFUSED


def are_outs(outs, many_lines):
    """Whether these are as many results as there may be, each the number of a line."""
    if len(outs) < 1 or len(outs) > MOST_RESULTS:
        return False
    return min(outs) >= 0 and max(outs) < many_lines


def answer_point(held, numbers):
    point = read_fractions(numbers, held.inputs)
    if point is None:
        return [WRONG_FORM]
    if any([weight(fraction) > MOST_HELD_WEIGHT for fraction in point]):
        return [TOO_HEAVY]
    held.hold_point(point)
    return run_answer(held.place.fault)


def run_answer(fault):
    if fault is None:
        return [0]
    return [1, fault[0], fault[1]]


def place_refusal(held):
    """Why what hangs on the run at the point can't be told."""
    if held.place is None:
        return NO_POINT
    if held.place.fault is not None:
        return FAULT_AT_POINT
    return NOT_REFUSED


def told(head, fractions):
    """The head's numbers, then each fraction's two; or the refusal, if one is too heavy."""
    numbers = list(head)
    for fraction in fractions:
        if weight(fraction) > MOST_TOLD_WEIGHT:
            return [TOO_HEAVY]
        numbers.append(fraction[0])
        numbers.append(fraction[1])
    return numbers


def answer_results(held):
    refusal = place_refusal(held)
    if refusal != NOT_REFUSED:
        return [refusal]
    results = results_here(held)
    return told([len(results)], results + [sum_of_squares(results)])


def answer_table(held):
    refusal = place_refusal(held)
    if refusal != NOT_REFUSED:
        return [refusal]
    slopes = []
    for row in table_here(held):
        slopes.extend(row)
    return told([len(held.outs), held.inputs], slopes)


def answer_step(held, kind):
    if kind != NEWTON and kind != LEAST_SQUARES:
        return [OUT_OF_RANGE]
    refusal = place_refusal(held)
    if refusal != NOT_REFUSED:
        return [refusal]
    pairs = step_here(held, kind)
    if pairs is None:
        return [0]
    step = lowest_step(pairs)
    if step is None:
        return [TOO_HEAVY]
    pictures = straight_picture(table_here(held), results_here(held), step)
    return told([1], step + pictures + [sum_of_squares(pictures)])


def lowest_step(pairs):
    """The step's fractions; None if one is too heavy to be told."""
    step = []
    for top, bottom in pairs:
        fraction = quick_lowest(top, bottom)
        if fraction is None or weight(fraction) > MOST_TOLD_WEIGHT:
            return None
        step.append(fraction)
    return step
