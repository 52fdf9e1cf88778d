import unittest
from fractions import Fraction

from exactstep.fraction import ONE, ZERO, weight
from exactstep.held import Held, place_at
from exactstep.moves import answer_descend
from tests.asking import LOOKS, RESULTS, ask, code, descend, flat_and_low, last, point, power
from tests.asking import steep, steep_and_high, steep_and_long

X = (0, 0)
SQUARE_LESS_2 = code(1, [X, (1, 2, 1), (4, 0, 0), (3, 2, 1)], [3])


def square_and(number):
    return code(1, [X, (1, number, 1), (4, 0, 0), (2, 2, 1)], [3])


def powers_code(twos, threes):
    """Code with the results 1 over 2 to a power, 1 over 3 to a power, and x over that power of 2.

    Its step of least squares leads to 0, and there's no other.
    """
    lines = [(1, 1, 2), (1, 1, 3), X]
    first = power(lines, 0, twos)
    second = power(lines, 1, threes)
    lines.append((4, first, 2))
    return code(1, lines, [first, second, len(lines) - 1])


def heavy_descent(before, behind):
    """Calls for a descent between sums of squares with these weights, both about 6000, and the sums."""
    for start in (1, 2):
        for twos in range(980, 1020):
            for threes in range(610, 650):
                two, three = Fraction(1, 4 ** twos), Fraction(1, 9 ** threes)
                sums = [(start * start + 1) * two + three, two + three]
                if [weight((value.numerator, value.denominator)) for value in sums] == [before, behind]:
                    return [powers_code(twos, threes), point(start, 1)], sums


class DescendTest(unittest.TestCase):
    def test_the_whole_step(self):
        for kind in (0, 1):
            for k in (0, 1, 20):
                calls = [SQUARE_LESS_2, point(3, 2), descend(kind, k), RESULTS]
                self.assertEqual(ask(*calls)[2:], [[2, 0, 1, 16, 1, 20736], [1, 1, 144, 1, 20736]])

    def test_some_halvings(self):
        # At 1/4 the step of x * x + 1 is -17/8; an eighth of it leads to -1/64.
        held = [square_and(1), point(1, 4)]
        behind = (4096 + 1) ** 2
        for kind in (0, 1):
            for k in (3, 4, 20):
                self.assertEqual(last(*held, descend(kind, k)), [2, 3, 289, 256, behind, 4096 ** 2])
            for k in (0, 1, 2):
                self.assertEqual(last(*held, descend(kind, k)), [1])

    def test_the_most_halvings(self):
        # At 1 the step is -(1 + c) / 2, and less than 2 of it helps.
        held = [square_and(3 * 2 ** 20), point(1, 1)]
        answer = last(*held, descend(0, 20))
        self.assertEqual(answer[:4], [2, 20, (3 * 2 ** 20 + 1) ** 2, 1])
        self.assertLess(answer[4], answer[2] * answer[5])
        self.assertEqual(ask(*held, descend(0, 19), descend(0, 0), RESULTS)[2:4], [[1], [1]])

    def test_no_step(self):
        held = [square_and(1), point(0, 1)]
        self.assertEqual(ask(*held, descend(0, 20), *LOOKS)[2:], [[0]] + ask(*held, *LOOKS)[2:])
        held = [code(2, [(0, 0), (0, 1), (2, 0, 1)], [2]), point(1, 1, 1, 1)]
        self.assertEqual(last(*held, descend(0, 5)), [0])
        self.assertEqual(last(*held, descend(1, 5)), [2, 0, 4, 1, 0, 1])

    def test_a_step_of_0(self):
        self.assertEqual(last(square_and(1), point(0, 1), descend(1, 20)), [1])
        self.assertEqual(last(code(1, [X], [0]), point(0, 1), descend(0, 20)), [1])

    def test_nothing_is_changed_where_none_helps(self):
        held = [square_and(1), point(1, 4)]
        self.assertEqual(ask(*held, descend(0, 2), *LOOKS)[2:], [[1]] + ask(*held, *LOOKS)[2:])

    def test_a_sum_that_is_alike_does_not_help(self):
        # At 1 the step of x * x + 3 is -2, to -1.
        held = [square_and(3), point(1, 1)]
        self.assertEqual(last(*held, descend(0, 0)), [1])
        self.assertEqual(ask(*held, descend(0, 1), RESULTS)[2:], [[2, 1, 16, 1, 9, 1], [1, 3, 1, 9, 1]])

    def test_points_that_divide_by_0_are_passed_over(self):
        held = [code(1, [X, (5, 0, 0)], [0]), point(4, 1)]
        self.assertEqual(last(*held, descend(0, 0)), [1])
        self.assertEqual(ask(*held, descend(1, 9), RESULTS)[2:], [[2, 1, 16, 1, 4, 1], [1, 2, 1, 4, 1]])

    def test_points_with_a_heavy_value_are_passed_over(self):
        # Besides x there's (x - 1) * (x - 1/2) times 2 to the power 2100.
        lines = [X, (1, 2, 1), (1, 1, 1), (1, 1, 2), (3, 0, 2), (3, 0, 3), (4, 4, 5)]
        steep(lines, 6, 1, 2100)
        held = [code(1, lines, [0]), point(1, 1)]
        self.assertEqual(last(*held, descend(0, 0)), [1])
        self.assertEqual(last(*held, descend(0, 3)), [2, 1, 1, 1, 1, 4])

    def test_heavy_points_have_a_fault_and_are_passed_over(self):
        # The step is 2 to the power 2001; 2 to the power 1998 has a weight of 2000.
        held = [flat_and_low(2001), point(0, 1)]
        self.assertEqual(ask(*held, descend(0, 2), RESULTS)[2:], [[1], [1, -1, 1, 1, 1]])
        self.assertEqual(ask(*held, descend(0, 3), RESULTS)[2:], [[2, 3, 1, 1, 49, 64], [1, -7, 8, 49, 64]])

    def test_weights_of_2000_and_2001(self):
        self.assertEqual(last(steep_and_high(1998), point(0, 1), descend(0, 20)), [2, 0, 1, 1, 0, 1])
        for exponent in (1999, 5998, 5999, 6200, 14000):
            for kind in (0, 1):
                calls = [steep_and_high(exponent), point(0, 1), descend(kind, 20), RESULTS]
                self.assertEqual(ask(*calls)[2:], [[1], [1, 1, 1, 1, 1]])

    def test_long_steps(self):
        self.assertEqual(last(steep_and_long(1), point(0, 1), descend(0, 20)), [2, 0, 1, 1, 0, 1])
        for many in (2, 3, 4, 20, 40):
            for kind in (0, 1):
                calls = [steep_and_long(many), point(0, 1), descend(kind, 20), RESULTS]
                self.assertEqual(ask(*calls)[2:], [[1], [1, 1, 1, 1, 1]])

    def test_what_is_asked_behind_it_tells_of_the_new_point(self):
        there = ask(SQUARE_LESS_2, point(17, 12), *LOOKS)[2:]
        held = [SQUARE_LESS_2, point(3, 2)]
        self.assertEqual(ask(*held, descend(0, 0), *LOOKS)[3:], there)
        self.assertEqual(ask(*held, *LOOKS, descend(1, 9), *LOOKS)[7:], there)
        self.assertEqual(ask(*held, descend(0, 0), descend(0, 0))[3][2:4], [1, 20736])


class DescendIsRefusedTest(unittest.TestCase):
    def test_ranges(self):
        held = [SQUARE_LESS_2, point(3, 2)]
        for k in (-1, 21, 10 ** 18, -10 ** 18):
            self.assertEqual(last(*held, descend(0, k)), [-1])
        for kind in (-1, 2, 10 ** 18, -10 ** 18):
            self.assertEqual(last(*held, descend(kind, 0)), [-1])

    def test_no_point(self):
        self.assertEqual(last(descend(0, 0)), [-4])
        self.assertEqual(last(SQUARE_LESS_2, descend(1, 20)), [-4])

    def test_fault(self):
        for kind in (0, 1):
            self.assertEqual(last(code(1, [X, (5, 0, 0)], [0]), point(0, 1), descend(kind, 3)), [-5])

    def test_sums_with_weights_of_6000(self):
        for before, behind in ((5999, 6000), (6000, 5998)):
            held, sums = heavy_descent(before, behind)
            told = [number for value in sums for number in (value.numerator, value.denominator)]
            self.assertEqual(last(*held, descend(1, 0)), [2, 0] + told)

    def test_sums_with_weights_of_6001(self):
        for before, behind in ((5999, 6001), (6001, 5998)):
            held, _ = heavy_descent(before, behind)
            self.assertEqual(ask(*held, descend(1, 0), *LOOKS)[2:], [[-6]] + ask(*held, *LOOKS)[2:])

    def test_sums_that_are_not_told_may_be_too_heavy(self):
        held = [heavy_descent(5999, 6001)[0][0], point(0, 1)]
        self.assertEqual(ask(*held, RESULTS, descend(1, 20), descend(0, 20))[2:], [[-6], [1], [0]])

    def test_a_point_that_is_too_heavy(self):
        # No call leads here: an input that moves has a line, and that has the fault ahead of this.
        held = Held()
        held.hold_code(2, [(0, 0)], [0])
        for exponent, answer in ((1998, [2, 0, 1, 1, 0, 1]), (1999, [-6])):
            place = place_at(held, [ONE, ZERO])
            place.steps[0] = [(-1, 1), (1, 2 ** exponent)]
            held.hold_place(place)
            self.assertEqual(answer_descend(held, 0, 5), answer)
            self.assertEqual(held.place == place, answer == [-6])

    def test_order_of_refusals(self):
        divides = [code(1, [X, (5, 0, 0)], [0]), point(0, 1)]
        heavy = heavy_descent(5999, 6001)[0]
        for before in ([], [SQUARE_LESS_2], divides, heavy):
            for wrong in (descend(2, 0), descend(0, 21), descend(-1, -1)):
                self.assertEqual(last(*before, wrong), [-1])

    def test_everything_is_as_it_was(self):
        held = [SQUARE_LESS_2, point(3, 2)]
        seen = ask(*held, *LOOKS)[2:]
        for wrong in (descend(2, 0), descend(0, 21)):
            self.assertEqual(ask(*held, wrong, *LOOKS)[2:], [[-1]] + seen)


if __name__ == "__main__":
    unittest.main()
