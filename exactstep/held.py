"""What the object holds: code with its results, and a point, or none."""

from exactstep.run import run
from exactstep.slopes import table_at
from exactstep.solve import find_step


class Place:
    """A point, with what the run of the code there gave."""

    def __init__(self, point, line_values, fault):
        self.point = point
        self.line_values = line_values
        self.fault = fault
        # Both are dear to work out, so that's done when they're first asked for, and once.
        self.table = None
        self.steps = {}


class Held:
    """Code over a number of inputs, with its results, and a place, or None."""

    def __init__(self):
        self.inputs = 0
        self.lines = []
        self.outs = []
        self.place = None

    def hold_code(self, inputs, lines, outs):
        self.inputs = inputs
        self.lines = lines
        self.outs = outs
        self.place = None

    def hold_place(self, place):
        self.place = place


def place_at(held, point):
    """The place that a point is with the code that's held."""
    ran = run(held.lines, point)
    return Place(point, ran[0], ran[1])


def results_at(held, place):
    """The values of the results; as with all that follows, the run there had no fault."""
    return [place.line_values[out] for out in held.outs]


def results_here(held):
    return results_at(held, held.place)


def table_here(held):
    place = held.place
    if place.table is None:
        place.table = table_at(held.lines, held.outs, held.inputs, place.line_values)
    return place.table


def step_here(held, kind):
    """The step of that kind as solve tells it, or None."""
    place = held.place
    if kind not in place.steps:
        place.steps[kind] = find_step(kind, table_here(held), results_here(held), held.inputs)
    return place.steps[kind]
