"""Many lists of calls, ordinary and wrong ones, answered by the package and by the plain model."""

import random
import unittest

from exactstep import desk
from tests.model import model_answers


def laid_out(parted_calls):
    calls = []
    for parts in parted_calls:
        for part in parts:
            calls += [len(part)] + part if isinstance(part, list) else [part]
    return calls


def some_fraction(chance, size):
    return [chance.randint(-size, size), chance.randint(1, size)]


def some_line(chance, place, n, size):
    kind = chance.choice((0, 1, 2, 3, 4, 4, 5, 6)) if place else chance.choice((0, 1))
    if kind == 0:
        return [0, chance.randrange(n)]
    if kind == 1:
        return [1] + some_fraction(chance, size)
    return [kind] + [late_place(chance, place) for _ in range(1 if kind == 6 else 2)]


def late_place(chance, many):
    """The place of any line, or of one of the last: values grow only where these are used again."""
    return chance.randrange(many) if chance.random() < 0.5 else chance.randrange(max(0, many - 6), many)


def some_code(chance, n, size):
    many = chance.choice((1, 3, 6, 12, 20, 40, 60))
    lines = [[0, k] for k in range(min(n, many))]
    while len(lines) < many:
        lines.append(some_line(chance, len(lines), n, size))
    outs = [late_place(chance, many) for _ in range(chance.choice((n, chance.randint(1, 6))))]
    return [0, n, [number for line in lines for number in line], outs]


def spoilt(chance, parts):
    """The call with one of its numbers changed."""
    parts = [list(part) if isinstance(part, list) else part for part in parts]
    place = chance.randrange(1, len(parts))
    if isinstance(parts[place], list):
        if not parts[place] or chance.random() < 0.2:
            parts[place].append(chance.randint(-2, 8))
        else:
            parts[place][chance.randrange(len(parts[place]))] = chance.choice((-1, 0, 1, 5, 7, 60))
    else:
        parts[place] = chance.choice((-1, 0, 2, 5))
    return parts


def some_calls(chance):
    n = chance.randint(1, 4)
    size = chance.choice((2, 9, 10 ** 6, 10 ** 18))
    calls = []
    for _ in range(chance.randint(1, 25)):
        kind = chance.choice((0, 1, 1, 2, 3, 4, 4)) if calls else 0
        if kind == 0:
            n = chance.randint(1, 4)
            parts = some_code(chance, n, size)
        elif kind == 1:
            parts = [1, [number for _ in range(n) for number in some_fraction(chance, size)]]
        elif kind == 4:
            parts = [4, chance.randint(0, 1)]
        else:
            parts = [kind]
        if len(parts) > 1 and chance.random() < 0.1:
            parts = spoilt(chance, parts)
        calls.append(parts)
        if kind == 0:
            calls.append([1, [number for _ in range(n) for number in some_fraction(chance, size)]])
    return calls


def heavy_calls(chance):
    """Code that grows by lines without a fault at one point, so that its values come near 2000."""
    n = chance.randint(1, 4)
    point = [number for _ in range(n) for number in some_fraction(chance, 10 ** 18)]
    lines = [[0, k] for k in range(n)]
    for _ in range(80):
        place = len(lines)
        longer = lines + [[chance.choice((2, 3, 4, 4, 5)), late_place(chance, place), late_place(chance, place)]]
        flat = [number for line in longer for number in line]
        if place < 60 and model_answers([[0, n, flat, [place]], [1, point]])[2:] == [1, 0]:
            lines = longer
    outs = [late_place(chance, len(lines)) for _ in range(chance.randint(1, 6))]
    return [[0, n, [number for line in lines for number in line], outs], [1, point], [2], [3], [4, 0], [4, 1]]


class ModelTest(unittest.TestCase):
    def test_the_same_answers(self):
        for seed in range(400):
            parted_calls = some_calls(random.Random(seed))
            with self.subTest(seed=seed):
                self.assertEqual(desk.answers(laid_out(parted_calls)), model_answers(parted_calls))

    def test_the_same_answers_with_heavy_values(self):
        for seed in range(40):
            parted_calls = heavy_calls(random.Random(seed))
            with self.subTest(seed=seed):
                self.assertEqual(desk.answers(laid_out(parted_calls)), model_answers(parted_calls))


if __name__ == "__main__":
    unittest.main()
