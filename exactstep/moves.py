"""The calls that move the point: take, descend and round. Each answers a list of numbers."""

from exactstep.fraction import HALF, is_less, minus, nearest, plus, quick_lowest, sum_of_squares, times
from exactstep.held import place_at, results_at, results_here, step_here
from exactstep.refusals import NO_POINT, NOT_REFUSED, OUT_OF_RANGE, TOO_HEAVY
from exactstep.solve import is_kind, lowest_step
from exactstep.telling import may_be_taken, place_refusal, run_answer, told

MOST_HALVINGS = 20
MOST_BINARY_PLACES = 200


def answer_take(held, kind, top, bottom):
    if not is_kind(kind) or bottom < 1:
        return [OUT_OF_RANGE]
    refusal = place_refusal(held)
    if refusal != NOT_REFUSED:
        return [refusal]
    pairs = step_here(held, kind)
    if pairs is None:
        return [0]
    point = part_way(held.place.point, pairs, top, bottom)
    if point is None or not may_be_taken(point):
        return [TOO_HEAVY]
    held.hold_place(place_at(held, point))
    return [1] + run_answer(held.place.fault)


def part_way(point, pairs, top, bottom):
    """The point plus top over bottom times the step; None if that's too heavy."""
    reached = []
    for start, pair in zip(point, pairs):
        # Not by way of the step's own fraction: that may be too heavy where the sum isn't.
        whole = bottom * pair[1]
        fraction = quick_lowest(start[0] * whole + top * pair[0] * start[1], start[1] * whole)
        if fraction is None:
            return None
        reached.append(fraction)
    return reached


def answer_descend(held, kind, most_halvings):
    if not is_kind(kind) or most_halvings < 0 or most_halvings > MOST_HALVINGS:
        return [OUT_OF_RANGE]
    refusal = place_refusal(held)
    if refusal != NOT_REFUSED:
        return [refusal]
    pairs = step_here(held, kind)
    if pairs is None:
        return [0]
    before = sum_of_squares(results_here(held))
    found = first_lower(held, pairs, most_halvings, before)
    if found is None:
        return [1]
    halvings = found[0]
    place = found[1]
    answer = told([2, halvings], [before, sum_of_squares(results_at(held, place))])
    if answer[0] == TOO_HEAVY or not may_be_taken(place.point):
        return [TOO_HEAVY]
    held.hold_place(place)
    return answer


def first_lower(held, pairs, most_halvings, before):
    """Two things: the first number of halvings that gives a lower sum, and the place; None if there's none."""
    step = lowest_step(pairs)
    if step is None:
        # What two points that may be taken differ by has a weight below 6000, and 20 doublings add 20.
        # So each tried point is too heavy, and has a fault: an input that moves has a line.
        return None
    for halvings in range(most_halvings + 1):
        tried = place_at(held, [plus(start, part) for start, part in zip(held.place.point, step)])
        if tried.fault is None and is_less(sum_of_squares(results_at(held, tried)), before):
            return (halvings, tried)
        step = [times(part, HALF) for part in step]
    return None


def answer_round(held, places):
    if places < 0 or places > MOST_BINARY_PLACES:
        return [OUT_OF_RANGE]
    if held.place is None:
        return [NO_POINT]
    point = held.place.point
    rounded = [nearest(fraction, 1 << places) for fraction in point]
    if not may_be_taken(rounded):
        return [TOO_HEAVY]
    held.hold_place(place_at(held, rounded))
    # Two fractions that may be taken are never so heavy that what they differ by can't be told.
    return told([len(point)], [minus(was, now) for was, now in zip(point, rounded)])
