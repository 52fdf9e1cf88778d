"""Newton's step and the step of least squares, worked out in whole numbers.

Rows here are equations: a number for each input, and behind them what the equation is to give.
A step is a list of pairs of whole numbers, top and bottom, that needn't be in lowest terms: to
bring them there takes long if they have many digits, and it isn't needed on the way.
"""

from exactstep.fraction import common_divisor, negative, quick_lowest

NEWTON = 0
LEAST_SQUARES = 1


def is_kind(kind):
    return kind == NEWTON or kind == LEAST_SQUARES


def find_step(kind, table, results, inputs):
    """The step of that kind; None if there's none."""
    rows = whole_rows(table, results)
    if kind == NEWTON:
        return newton_step(rows, inputs)
    return least_squares_step(rows, inputs)


def newton_step(rows, inputs):
    stepped = brought_into_steps(rows, inputs)
    leads = stepped[1]
    if len(leads) < inputs:
        return None
    for row in stepped[0][inputs:]:
        if row[inputs] != 0:
            return None
    return read_step(stepped[0], leads, inputs)


def least_squares_step(rows, inputs):
    stepped = brought_into_steps(turned_times(rows, inputs), inputs)
    return read_step(stepped[0], stepped[1], inputs)


def whole_rows(table, results):
    """The equations that make the straight picture 0, all of them times one whole number.

    It has to be the same number for all: other multiples change the least squares.
    """
    rows = [slopes + [negative(result)] for slopes, result in zip(table, results)]
    bottom = common_denominator(rows)
    return [whole_row(row, bottom) for row in rows]


def common_denominator(rows):
    bottom = 1
    for row in rows:
        for fraction in row:
            bottom = bottom // common_divisor(bottom, fraction[1]) * fraction[1]
    return bottom


def whole_row(row, bottom):
    return [fraction[0] * (bottom // fraction[1]) for fraction in row]


def turned_times(rows, inputs):
    """The equations of least squares: the turned table times the rows."""
    products = []
    for by in range(inputs):
        products.append([column_product(rows, by, column) for column in range(inputs + 1)])
    return products


def column_product(rows, first, second):
    return sum([row[first] * row[second] for row in rows])


def brought_into_steps(rows, inputs):
    """Two things: the rows brought into steps, and the columns that aren't free.

    Instead of dividing a row by its lead, all rows are kept whole; at the end all leads are the
    same number. The solutions and the free columns stay what they are with fractions.
    """
    stepped = list(rows)
    leads = []
    lead_before = 1
    for column in range(inputs):
        taken = len(leads)
        found = first_row_with(stepped, column, taken)
        if found is not None:
            lead_row = stepped[found]
            stepped[found] = stepped[taken]
            stepped[taken] = lead_row
            stepped = [
                row if place == taken else cleared(row, lead_row, column, lead_before)
                for place, row in enumerate(stepped)
            ]
            leads.append(column)
            lead_before = lead_row[column]
    return (stepped, leads)


def first_row_with(rows, column, start):
    """The place of the first row from start on that isn't 0 in the column; None if there's none."""
    for place in range(start, len(rows)):
        if rows[place][column] != 0:
            return place
    return None


def cleared(row, lead_row, column, lead_before):
    """The row with 0 in the column.

    The division has no rest (Bareiss's way): every number is, but for its sign, a determinant of
    numbers of the first rows.
    """
    lead = lead_row[column]
    own = row[column]
    return [(lead * left - own * right) // lead_before for left, right in zip(row, lead_row)]


def read_step(stepped, leads, inputs):
    """The step that the rows tell, with 0 for the free columns' inputs."""
    step = [(0, 1) for column in range(inputs)]
    for place, column in enumerate(leads):
        step[column] = (stepped[place][inputs], stepped[place][column])
    return step


def lowest_step(step):
    """The step's fractions in lowest terms; None if one is far too heavy, as quick_lowest tells."""
    fractions = [quick_lowest(top, bottom) for top, bottom in step]
    if None in fractions:
        return None
    return fractions
