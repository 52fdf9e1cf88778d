"""Many lists of calls, ordinary and wrong ones, answered by the package and by the plain model."""

import random
import unittest

from exactstep import desk
from tests.model import model_answers


def laid_out(parted_calls):
    calls = []
    for parts in parted_calls:
        for part in parts:
            calls += [len(part)] + part if isinstance(part, list) else [part]
    return calls


def some_fraction(chance, size):
    return [chance.randint(-size, size), chance.randint(1, size)]


def some_line(chance, place, n, size):
    kind = chance.choice((0, 1, 2, 3, 4, 4, 5, 6)) if place else chance.choice((0, 1))
    if kind == 0:
        return [0, chance.randrange(n)]
    if kind == 1:
        return [1] + some_fraction(chance, size)
    return [kind] + [late_place(chance, place) for _ in range(1 if kind == 6 else 2)]


def late_place(chance, many):
    """The place of any line, or of one of the last: values grow only where these are used again."""
    return chance.randrange(many) if chance.random() < 0.5 else chance.randrange(max(0, many - 6), many)


def some_code(chance, n, size):
    many = chance.choice((1, 3, 6, 12, 20, 40, 60))
    lines = [[0, k] for k in range(min(n, many))]
    while len(lines) < many:
        lines.append(some_line(chance, len(lines), n, size))
    outs = [late_place(chance, many) for _ in range(chance.choice((n, chance.randint(1, 6))))]
    return [0, n, [number for line in lines for number in line], outs]


def spoilt(chance, parts):
    """The call with one of its numbers changed."""
    parts = [list(part) if isinstance(part, list) else part for part in parts]
    place = chance.randrange(1, len(parts))
    if isinstance(parts[place], list):
        if not parts[place] or chance.random() < 0.2:
            parts[place].append(chance.randint(-2, 8))
        else:
            parts[place][chance.randrange(len(parts[place]))] = chance.choice((-1, 0, 1, 5, 7, 60))
    else:
        parts[place] = chance.choice((-1, 0, 2, 5, 21, 101, 201))
    return parts


def some_fractions(chance, many, size):
    return [number for _ in range(many) for number in some_fraction(chance, size)]


def some_call(chance, kind, n, size):
    if kind == 0:
        return some_code(chance, n, size)
    if kind == 1:
        return [1, some_fractions(chance, n, size)]
    if kind == 4:
        return [4, chance.randint(0, 1)]
    if kind == 5:
        return [5, chance.randint(0, 1)] + chance.choice(([1, 1], [1, 2], [0, 3], some_fraction(chance, size)))
    if kind == 6:
        return [6, chance.randint(0, 1), chance.choice((0, 1, 5, 20))]
    if kind == 7:
        return [7, some_fractions(chance, n, size)]
    if kind == 8:
        return [8, chance.randint(0, 1), chance.choice((0, 1, 5, 20)), some_fractions(chance, 2, size)]
    if kind == 9:
        return [9, chance.choice((0, 1, 8, 30, 200))]
    return [kind]


def some_calls(chance):
    n = chance.randint(1, 4)
    size = chance.choice((2, 9, 10 ** 6, 10 ** 18))
    calls = []
    for _ in range(chance.randint(1, 25)):
        kind = chance.choice((0, 1, 1, 2, 3, 4, 4, 5, 5, 6, 6, 6, 7, 7, 8, 9)) if calls else 0
        if kind == 0:
            n = chance.choice((1, 1, 2, 3, 4))
        parts = some_call(chance, kind, n, size)
        if len(parts) > 1 and chance.random() < 0.1:
            parts = spoilt(chance, parts)
        calls.append(parts)
        if kind == 0:
            calls.append(some_call(chance, 1, n, size))
    return calls


def heavy_calls(chance):
    """Code that grows by lines without a fault at one point, so that its values come near 2000."""
    n = chance.randint(1, 4)
    point = some_fractions(chance, n, 10 ** 18)
    lines = [[0, k] for k in range(n)]
    for _ in range(80):
        place = len(lines)
        longer = lines + [[chance.choice((2, 3, 4, 4, 5)), late_place(chance, place), late_place(chance, place)]]
        flat = [number for line in longer for number in line]
        if place < 60 and model_answers([[0, n, flat, [place]], [1, point]])[2:] == [1, 0]:
            lines = longer
    outs = [late_place(chance, len(lines)) for _ in range(chance.randint(1, 6))]
    held = [[0, n, [number for line in lines for number in line], outs], [1, point]]
    small = [7, some_fractions(chance, n, 9)]
    return held + [[2], [3], [4, 0], [4, 1], small, [6, 0, 5], [9, 200], [2], [5, 1, 1, 3], [9, 3], [6, 1, 5], [2]]


def halving_calls(chance):
    """Code over one input, and ends on both sides of 0, so that signs change more often."""
    size = chance.choice((2, 9, 10 ** 18))
    calls = [some_code(chance, 1, chance.choice((2, 9)))]
    for _ in range(20):
        ends = some_fractions(chance, 2, size)
        ends[0] = -ends[0] if ends[0] * ends[2] > 0 else ends[0]
        calls.append([8, chance.randint(0, 2), chance.choice((0, 1, 5, 20, 100)), ends])
    return calls


class ModelTest(unittest.TestCase):
    def test_the_same_answers_for_halving(self):
        for seed in range(100):
            parted_calls = halving_calls(random.Random(seed))
            with self.subTest(seed=seed):
                self.assertEqual(desk.answers(laid_out(parted_calls)), model_answers(parted_calls))

    def test_the_same_answers(self):
        for seed in range(400):
            parted_calls = some_calls(random.Random(seed))
            with self.subTest(seed=seed):
                self.assertEqual(desk.answers(laid_out(parted_calls)), model_answers(parted_calls))

    def test_the_same_answers_with_heavy_values(self):
        for seed in range(40):
            parted_calls = heavy_calls(random.Random(seed))
            with self.subTest(seed=seed):
                self.assertEqual(desk.answers(laid_out(parted_calls)), model_answers(parted_calls))


if __name__ == "__main__":
    unittest.main()
