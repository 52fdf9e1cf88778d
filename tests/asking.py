"""Helps the tests to lay out calls, and to take answers apart."""

from exactstep.desk import answers

RESULTS = [2]
TABLE = [3]
NEWTON = [4, 0]
LEAST = [4, 1]
LOOKS = [RESULTS, TABLE, NEWTON, LEAST]


def row(numbers):
    return [len(numbers)] + list(numbers)


def code(n, lines, outs):
    """lines: a list of lines, each a tuple of its numbers."""
    return raw_code(n, [number for line in lines for number in line], outs)


def raw_code(n, numbers, outs):
    return [0, n] + row(numbers) + row(outs)


def point(*numbers):
    return [1] + row(numbers)


def take(kind, n, m):
    return [5, kind, n, m]


def descend(kind, k):
    return [6, kind, k]


def error(*numbers):
    return [7] + row(numbers)


def halve(i, k, *ends):
    return [8, i, k] + row(ends)


def round_to(b):
    return [9, b]


def parted(call):
    """One laid out call as the model takes it: its number, its whole numbers and its rows."""
    wholes = (1, 0, 0, 0, 1, 3, 2, 0, 2, 1)[call[0]]
    parts, rest = call[:1 + wholes], call[1 + wholes:]
    while rest:
        parts.append(rest[1:1 + rest[0]])
        rest = rest[1 + rest[0]:]
    return parts


def ask(*calls):
    """The answer to each call, in a list."""
    given = answers([number for call in calls for number in call])
    split = []
    place = 0
    while place < len(given):
        behind = place + 1 + given[place]
        split.append(given[place + 1:behind])
        place = behind
    assert place == len(given) and len(split) == len(calls)
    return split


def last(*calls):
    return ask(*calls)[-1]


def power(lines, base, exponent):
    """Puts lines behind those that are there, for a power of the line base; gives its number."""
    found = None
    square = base
    while True:
        if exponent % 2 == 1:
            if found is None:
                found = square
            else:
                lines.append((4, found, square))
                found = len(lines) - 1
        exponent //= 2
        if exponent == 0:
            return found
        lines.append((4, square, square))
        square = len(lines) - 1


def steep(lines, base, two, exponent):
    """Puts lines there for the line base times 2 to the power; the line two is 2. Gives its number.

    The power itself may be too heavy for a line, so base should have the value 0.
    """
    big = power(lines, two, 1500)
    found = base
    for _ in range(exponent // 1500):
        lines.append((4, found, big))
        found = len(lines) - 1
    lines.append((4, found, power(lines, two, exponent % 1500)))
    return len(lines) - 1


def steep_and_high(exponent):
    """Code with the result x times 2 to the power, plus 1: at 0 the step is -1 over that power."""
    lines = [(0, 0), (1, 2, 1), (1, 1, 1)]
    lines.append((2, 2, steep(lines, 0, 1, exponent)))
    return code(1, lines, [len(lines) - 1])


def steep_and_long(many):
    """Code with the result x times a fraction to the power 16 * many, plus 1.

    Each 16 add 1920 to the step's weight, and Euclid's way takes long with its two numbers.
    """
    lines = [(0, 0), (1, 10 ** 18 - 11, 10 ** 18 - 33), (1, 1, 1)]
    big = power(lines, 1, 16)
    found = 0
    for _ in range(many):
        lines.append((4, found, big))
        found = len(lines) - 1
    lines.append((2, found, 2))
    return code(1, lines, [len(lines) - 1])


def flat_and_low(exponent, factor=1):
    """Code with the result x times the factor over 2 to the power, less 1."""
    lines = [(0, 0), (1, 1, 2), (1, 1, 1), (1, factor, 1), (4, 0, 3)]
    lines.append((3, steep(lines, 4, 1, exponent), 2))
    return code(1, lines, [len(lines) - 1])


def sum_weight(twos, threes):
    """The weight of the sum of squares of 1 over 2 to a power and 1 over 3 to a power."""
    top = 4 ** twos + 9 ** threes
    return top.bit_length() + (4 ** twos * 9 ** threes).bit_length()


def powers_with(wanted):
    """Two exponents with that sum_weight, which is about 6000."""
    for twos in range(990, 1010):
        for threes in range(620, 640):
            if sum_weight(twos, threes) == wanted:
                return (twos, threes)


def two_powers(twos, threes):
    """Code with the results 1 over 2 to a power and 1 over 3 to a power."""
    lines = [(1, 1, 2), (1, 1, 3)]
    first = power(lines, 0, twos)
    second = power(lines, 1, threes)
    return code(1, lines, [first, second])
