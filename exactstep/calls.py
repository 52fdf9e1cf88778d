"""The calls that hold code or a point, and those that tell of the point: each answers a list of numbers."""

from exactstep.fraction import minus, plus, read_fractions, sum_of_squares, weight
from exactstep.held import place_at, results_at, results_here, step_here, table_here
from exactstep.lines import read_lines, uses_fit
from exactstep.refusals import FAULT_AT_POINT, NOT_REFUSED, OUT_OF_RANGE
from exactstep.refusals import TOO_HEAVY, TOO_MANY_LINES, WRONG_FORM, WRONG_USE
from exactstep.slopes import straight_picture
from exactstep.solve import is_kind, lowest_step
from exactstep.telling import MOST_TOLD_WEIGHT, may_be_taken, place_refusal, run_answer, told

MOST_INPUTS = 4
MOST_LINES = 60
MOST_RESULTS = 6


def answer_code(held, inputs, numbers, outs):
    lines = read_lines(numbers)
    refusal = code_refusal(inputs, lines, outs)
    if refusal != NOT_REFUSED:
        return [refusal]
    held.hold_code(inputs, lines, outs)
    return [len(lines)]


def code_refusal(inputs, lines, outs):
    """lines are as read_lines gives them."""
    if inputs < 1 or inputs > MOST_INPUTS:
        return OUT_OF_RANGE
    if lines is None or not are_outs(outs, len(lines)):
        return WRONG_FORM
    if len(lines) > MOST_LINES:
        return TOO_MANY_LINES
    if not uses_fit(lines, inputs):
        return WRONG_USE
    return NOT_REFUSED


def are_outs(outs, many_lines):
    """Whether these are as many results as there may be, each the number of a line."""
    if len(outs) < 1 or len(outs) > MOST_RESULTS:
        return False
    return min(outs) >= 0 and max(outs) < many_lines


def answer_point(held, numbers):
    point = read_fractions(numbers, held.inputs)
    if point is None:
        return [WRONG_FORM]
    if not may_be_taken(point):
        return [TOO_HEAVY]
    held.hold_place(place_at(held, point))
    return run_answer(held.place.fault)


def answer_results(held):
    refusal = place_refusal(held)
    if refusal != NOT_REFUSED:
        return [refusal]
    results = results_here(held)
    return told([len(results)], results + [sum_of_squares(results)])


def answer_table(held):
    refusal = place_refusal(held)
    if refusal != NOT_REFUSED:
        return [refusal]
    slopes = []
    for row in table_here(held):
        slopes.extend(row)
    return told([len(held.outs), held.inputs], slopes)


def answer_step(held, kind):
    if not is_kind(kind):
        return [OUT_OF_RANGE]
    refusal = place_refusal(held)
    if refusal != NOT_REFUSED:
        return [refusal]
    pairs = step_here(held, kind)
    if pairs is None:
        return [0]
    step = lowest_step(pairs)
    # Looked at ahead of the straight picture, which takes long with a heavy step.
    if step is None or any([weight(part) > MOST_TOLD_WEIGHT for part in step]):
        return [TOO_HEAVY]
    pictures = straight_picture(table_here(held), results_here(held), step)
    return told([1], step + pictures + [sum_of_squares(pictures)])


def answer_error(held, numbers):
    step = read_fractions(numbers, held.inputs)
    if step is None:
        return [WRONG_FORM]
    refusal = place_refusal(held)
    if refusal != NOT_REFUSED:
        return [refusal]
    reached = place_at(held, [plus(part, more) for part, more in zip(held.place.point, step)])
    if reached.fault is not None:
        return [FAULT_AT_POINT]
    pictures = straight_picture(table_here(held), results_here(held), step)
    errors = [minus(result, picture) for result, picture in zip(results_at(held, reached), pictures)]
    return told([len(errors)], errors)
