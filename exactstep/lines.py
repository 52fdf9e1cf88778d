"""Line code: tuples of a kind and its numbers, read from a row of numbers."""

INPUT = 0
CONSTANT = 1
PLUS = 2
MINUS = 3
TIMES = 4
OVER = 5
NEGATIVE = 6

# How many numbers a line has, by its kind, the kind itself counted.
LENGTHS = (2, 3, 3, 3, 3, 3, 2)


def read_lines(numbers):
    """The lines that stand one behind the other in numbers; None if they aren't lines."""
    lines = []
    place = 0
    while place < len(numbers):
        line = read_line(numbers, place)
        if line is None:
            return None
        lines.append(line)
        place += len(line)
    return lines


def read_line(numbers, place):
    """The line that begins at the place; None if there's none."""
    kind = numbers[place]
    if kind < 0 or kind >= len(LENGTHS):
        return None
    line = tuple(numbers[place:place + LENGTHS[kind]])
    if len(line) < LENGTHS[kind] or not numbers_fit(line):
        return None
    return line


def numbers_fit(line):
    """Whether the numbers behind the kind may stand there, whatever the other lines are."""
    if line[0] == CONSTANT:
        return line[2] >= 1
    return min(line[1:]) >= 0


def uses_fit(lines, inputs):
    """Whether every line uses only earlier lines and inputs that are there."""
    for place, line in enumerate(lines):
        if line[0] == INPUT:
            if line[1] >= inputs:
                return False
        elif line[0] != CONSTANT:
            if max(line[1:]) >= place:
                return False
    return True
