import unittest

from exactstep.fraction import lowest, weight
from exactstep.moves import part_way
from tests.asking import LEAST, LOOKS, NEWTON, RESULTS, TABLE
from tests.asking import ask, code, last, point, power, steep_and_high, steep_and_long, take

X = (0, 0)
SQUARE_LESS_2 = code(1, [X, (1, 2, 1), (4, 0, 0), (3, 2, 1)], [3])
# x * x + 1 has no Newton's step at 0.
SQUARE_AND_1 = code(1, [X, (1, 1, 1), (4, 0, 0), (2, 2, 1)], [3])
IDENTITY = code(2, [(0, 0), (0, 1)], [0, 1])


def where(*calls):
    """The point's fractions behind the calls, where the code is IDENTITY."""
    return last(*calls, RESULTS)[1:5]


class TakeTest(unittest.TestCase):
    def test_newtons_step(self):
        calls = [SQUARE_LESS_2, point(3, 2), take(0, 1, 1), RESULTS]
        self.assertEqual(ask(*calls)[2:], [[1, 0], [1, 1, 144, 1, 20736]])

    def test_the_step_of_least_squares(self):
        # x - 1, x - 2 and x - 6 are least together at 3.
        lines = [X, (1, 1, 1), (1, 2, 1), (1, 6, 1), (3, 0, 1), (3, 0, 2), (3, 0, 3)]
        held = [code(1, lines, [4, 5, 6]), point(0, 1)]
        self.assertEqual(ask(*held, take(1, 1, 1), RESULTS)[2:], [[1, 0], [3, 2, 1, 1, 1, -3, 1, 14, 1]])
        self.assertEqual(ask(*held, take(0, 1, 1), RESULTS)[2:], [[0], [3, -1, 1, -2, 1, -6, 1, 41, 1]])

    def test_parts_of_a_step(self):
        held = [IDENTITY, point(6, 1, -1, 2)]
        for kind in (0, 1):
            self.assertEqual(where(*held, take(kind, 1, 1)), [0, 1, 0, 1])
            self.assertEqual(where(*held, take(kind, 1, 2)), [3, 1, -1, 4])
            self.assertEqual(where(*held, take(kind, 2, 4)), [3, 1, -1, 4])
            self.assertEqual(where(*held, take(kind, 5, 3)), [-4, 1, 1, 3])
            self.assertEqual(where(*held, take(kind, -1, 1)), [12, 1, -1, 1])
            self.assertEqual(where(*held, take(kind, -6, 4)), [15, 1, -5, 4])

    def test_the_greatest_and_the_least_part(self):
        held = [code(1, [X], [0]), point(-1, 1)]
        great = 10 ** 18
        self.assertEqual(ask(*held, take(0, great, 1), RESULTS)[-1][:3], [1, great - 1, 1])
        self.assertEqual(ask(*held, take(0, -great, 1), RESULTS)[-1][:3], [1, -great - 1, 1])
        self.assertEqual(ask(*held, take(0, 1, great), RESULTS)[-1][:3], [1, 1 - great, great])

    def test_no_part_of_a_step(self):
        held = [IDENTITY, point(6, 1, -1, 2)]
        self.assertEqual(ask(*held, take(0, 0, 7), take(1, 0, 1), RESULTS)[2:4], [[1, 0], [1, 0]])
        self.assertEqual(where(*held, take(0, 0, 7)), [6, 1, -1, 2])

    def test_no_step(self):
        held = [SQUARE_AND_1, point(0, 1)]
        self.assertEqual(ask(*held, take(0, 1, 1), RESULTS)[2:], [[0], [1, 1, 1, 1, 1]])
        self.assertEqual(ask(*held, take(0, 0, 1), *LOOKS)[2:], [[0]] + ask(*held, *LOOKS)[2:])

    def test_a_step_of_0(self):
        self.assertEqual(ask(SQUARE_AND_1, point(0, 1), take(1, 1, 1), RESULTS)[2:], [[1, 0], [1, 1, 1, 1, 1]])

    def test_what_is_asked_behind_it_tells_of_the_new_point(self):
        there = ask(SQUARE_LESS_2, point(17, 12), *LOOKS)[2:]
        held = [SQUARE_LESS_2, point(3, 2)]
        self.assertEqual(ask(*held, take(0, 1, 1), *LOOKS)[3:], there)
        self.assertEqual(ask(*held, *LOOKS, take(1, 1, 1), *LOOKS)[7:], there)

    def test_one_step_behind_another(self):
        calls = [SQUARE_LESS_2, point(1, 1), take(0, 1, 1), take(1, 1, 1), take(0, 1, 1), RESULTS]
        self.assertEqual(last(*calls), [1, 1, 408 ** 2, 1, 408 ** 4])


class TakeWithFaultTest(unittest.TestCase):
    def test_division_by_0(self):
        # x - 1, with a line 1 / (x - 1) besides.
        lines = [X, (1, 1, 1), (3, 0, 1), (5, 1, 2)]
        held = [code(1, lines, [2]), point(3, 1)]
        self.assertEqual(ask(*held, take(0, 1, 1), *LOOKS)[2:], [[1, 1, 3, 1]] + [[-5]] * 4)
        self.assertEqual(ask(*held, take(0, 1, 2), RESULTS)[2:], [[1, 0], [1, 1, 1, 1, 1]])

    def test_a_value_that_is_too_heavy(self):
        lines = [X, (1, 2, 1)]
        far = power(lines, 1, 1500)
        lines += [(3, 0, far), (4, 0, 0)]
        held = [code(1, lines, [len(lines) - 2]), point(0, 1)]
        self.assertEqual(ask(*held, take(1, 1, 1), *LOOKS)[2:], [[1, 1, len(lines) - 1, 2]] + [[-5]] * 4)

    def test_the_point_can_be_set_anew(self):
        lines = [X, (1, 1, 1), (3, 0, 1), (5, 1, 2)]
        calls = [code(1, lines, [2]), point(3, 1), take(0, 1, 1), point(4, 1), RESULTS]
        self.assertEqual(ask(*calls)[3:], [[0], [1, 3, 1, 9, 1]])


class TakeIsRefusedTest(unittest.TestCase):
    def test_kinds(self):
        held = [SQUARE_LESS_2, point(3, 2)]
        for kind in (2, -1, 10 ** 18, -10 ** 18):
            self.assertEqual(last(*held, take(kind, 1, 1)), [-1])

    def test_denominators(self):
        held = [SQUARE_LESS_2, point(3, 2)]
        for m in (0, -1, -10 ** 18):
            self.assertEqual(last(*held, take(0, 1, m)), [-1])
            self.assertEqual(last(SQUARE_AND_1, point(0, 1), take(0, 1, m)), [-1])

    def test_no_point(self):
        self.assertEqual(last(take(0, 1, 1)), [-4])
        self.assertEqual(last(SQUARE_LESS_2, take(1, 1, 1)), [-4])

    def test_fault(self):
        for kind in (0, 1):
            self.assertEqual(last(code(1, [X, (5, 0, 0)], [0]), point(0, 1), take(kind, 1, 1)), [-5])

    def test_weights_of_2000_and_2001(self):
        fits = [steep_and_high(1998), point(0, 1), take(0, 1, 1), RESULTS, take(0, 1, 1)]
        self.assertEqual(ask(*fits)[2:], [[1, 0], [1, 0, 1, 0, 1], [1, 0]])
        heavy = [steep_and_high(1999), point(0, 1)]
        for kind in (0, 1):
            self.assertEqual(ask(*heavy, take(kind, 1, 1), *LOOKS)[2:], [[-6]] + ask(*heavy, *LOOKS)[2:])
            self.assertEqual(last(*heavy, take(kind, 2, 1)), [1, 0])
            self.assertEqual(last(*heavy, take(kind, -1, 1)), [-6])

    def test_one_heavy_fraction_is_enough(self):
        lines = [(0, 0), (0, 1), (1, 1, 3), (1, 1, 1)]
        small = power(lines, 2, 1000)
        lines += [(3, 0, 3), (5, 1, small), (5, len(lines) + 1, small), (3, len(lines) + 2, 3)]
        # x - 1, and y times 3 to the power 2000, less 1.
        held = [code(2, lines, [len(lines) - 4, len(lines) - 1]), point(0, 1, 0, 1)]
        self.assertEqual(ask(*held, take(0, 1, 1), RESULTS)[2:], [[-6], [2, -1, 1, -1, 1, 2, 1]])

    def test_a_step_that_cannot_be_told_may_be_taken_in_part_only_with_0(self):
        for steep in (steep_and_high(5999), steep_and_high(14000), steep_and_long(4), steep_and_long(20)):
            held = [steep, point(0, 1)]
            self.assertEqual(ask(*held, NEWTON, take(0, 1, 10 ** 18), take(0, 10 ** 18, 1))[2:], [[-6]] * 3)
            self.assertEqual(ask(*held, take(0, 0, 1), take(1, 0, 1), RESULTS)[2:], [[1, 0], [1, 0], [1, 1, 1, 1, 1]])

    def test_a_heavy_step_to_a_light_point(self):
        old, new, n, m = 3 ** 1260, 2 ** 1997, 5 ** 25, 7 ** 20
        pair = ((old - new) * m, old * new * n)
        self.assertGreater(weight(lowest(*pair)), 6000)
        self.assertEqual(part_way([(1, old)], [pair], n, m), [(1, new)])

    def test_order_of_refusals(self):
        divides = [code(1, [X, (5, 0, 0)], [0]), point(0, 1)]
        heavy = [steep_and_high(1999), point(0, 1)]
        for before in ([], [SQUARE_LESS_2], divides, heavy):
            self.assertEqual(last(*before, take(2, 1, 1)), [-1])
            self.assertEqual(last(*before, take(0, 1, 0)), [-1])
            self.assertEqual(last(*before, take(-1, 1, -1)), [-1])

    def test_everything_is_as_it_was(self):
        held = [SQUARE_LESS_2, point(3, 2)]
        seen = ask(*held, *LOOKS)[2:]
        for wrong in (take(2, 1, 1), take(0, 1, 0)):
            self.assertEqual(ask(*held, wrong, *LOOKS)[2:], [[-1]] + seen)
        self.assertEqual(ask(take(0, 1, 1), SQUARE_LESS_2, take(0, 1, 1), TABLE, LEAST), [[-4], [4], [-4], [-4], [-4]])


if __name__ == "__main__":
    unittest.main()
