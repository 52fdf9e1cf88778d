"""Exact fractions: pairs of a numerator and a denominator of 1 or more, in lowest terms."""

ZERO = (0, 1)
ONE = (1, 1)
HALF = (1, 2)

# Euclid's way takes at most 5 divisions for each decimal digit of the smaller number, and one more
# if the smaller comes first. In a fraction with a weight up to 6100 the smaller number has at most
# 3050 binary digits, so at most 919 decimal ones.
MOST_DIVISIONS = 4596


def common_divisor(first, second):
    """The greatest common divisor of two whole numbers that aren't both 0."""
    larger = abs(first)
    smaller = abs(second)
    while smaller > 0:
        rest = larger % smaller
        larger = smaller
        smaller = rest
    return larger


def quick_divisor(first, second):
    """As common_divisor, but 0 where that takes more than MOST_DIVISIONS divisions."""
    larger = abs(first)
    smaller = abs(second)
    divisions = 0
    while smaller > 0:
        if divisions == MOST_DIVISIONS:
            return 0
        rest = larger % smaller
        larger = smaller
        smaller = rest
        divisions += 1
    return larger


def divided(top, bottom, divisor):
    """Both numbers divided by a divisor of both, with the sign moved to the upper one."""
    if bottom < 0:
        return (-top // divisor, -bottom // divisor)
    return (top // divisor, bottom // divisor)


def lowest(top, bottom):
    """The fraction that is top over bottom, which isn't 0."""
    return divided(top, bottom, common_divisor(top, bottom))


def quick_lowest(top, bottom):
    """As lowest, but None for some fractions with a weight above 6100.

    Numbers with very many digits may stand for a short fraction. How many divisions Euclid's way
    takes hangs on that fraction alone, so with a long one we needn't go on to the end.
    """
    divisor = quick_divisor(top, bottom)
    if divisor == 0:
        return None
    return divided(top, bottom, divisor)


def weight(fraction):
    """How many binary digits the numerator and the denominator have together."""
    return abs(fraction[0]).bit_length() + fraction[1].bit_length()


def negative(fraction):
    return (-fraction[0], fraction[1])


def plus(first, second):
    # To divide by what the denominators share keeps the numbers short: only a divisor of it can
    # be left in the sum.
    shared = common_divisor(first[1], second[1])
    first_rest = first[1] // shared
    top = first[0] * (second[1] // shared) + second[0] * first_rest
    left = common_divisor(top, shared)
    return (top // left, first_rest * (second[1] // left))


def minus(first, second):
    return plus(first, negative(second))


def times(first, second):
    if first == second:
        return (first[0] * first[0], first[1] * first[1])
    # Each factor is in lowest terms, so only numbers from different factors share divisors.
    falling = common_divisor(first[0], second[1])
    rising = common_divisor(second[0], first[1])
    return ((first[0] // falling) * (second[0] // rising), (first[1] // rising) * (second[1] // falling))


def over(first, second):
    """The first divided by the second, which isn't 0."""
    return times(first, divided(second[1], second[0], 1))


def is_less(first, second):
    return first[0] * second[1] < second[0] * first[1]


def nearest(fraction, bottom):
    """The nearest of the whole numbers over bottom; of two as near the greater."""
    return lowest((2 * fraction[0] * bottom + fraction[1]) // (2 * fraction[1]), bottom)


def sum_of_squares(fractions):
    total = ZERO
    for fraction in fractions:
        total = plus(total, times(fraction, fraction))
    return total


def read_fractions(numbers, many):
    """So many fractions from numerators and denominators in turn; None if they aren't that."""
    if len(numbers) != 2 * many:
        return None
    fractions = []
    for place in range(many):
        if numbers[2 * place + 1] < 1:
            return None
        fractions.append(lowest(numbers[2 * place], numbers[2 * place + 1]))
    return fractions
