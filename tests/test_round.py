import unittest
from fractions import Fraction

from exactstep.fraction import nearest
from tests.asking import LOOKS, RESULTS, ask, code, flat_and_low, last, point, round_to, take

X = (0, 0)
IDENTITY = code(1, [X], [0])
DIVIDES = code(1, [X, (1, 1, 1), (5, 1, 0)], [2])


def rounded(top, bottom, b):
    """What the point was less what it is now, and what it is now."""
    answered = ask(IDENTITY, point(top, bottom), round_to(b), RESULTS)
    return answered[2], answered[3][1:3]


class RoundTest(unittest.TestCase):
    def test_the_documents_example(self):
        self.assertEqual(rounded(17, 12, 3), ([1, 1, 24], [11, 8]))

    def test_whole_numbers(self):
        self.assertEqual(rounded(7, 3, 0), ([1, 1, 3], [2, 1]))
        self.assertEqual(rounded(8, 3, 0), ([1, -1, 3], [3, 1]))
        self.assertEqual(rounded(1, 3, 0), ([1, 1, 3], [0, 1]))

    def test_below_0(self):
        self.assertEqual(rounded(-7, 3, 0), ([1, -1, 3], [-2, 1]))
        self.assertEqual(rounded(-8, 3, 0), ([1, 1, 3], [-3, 1]))
        self.assertEqual(rounded(-17, 12, 3), ([1, -1, 24], [-11, 8]))
        self.assertEqual(rounded(-1, 3, 0), ([1, -1, 3], [0, 1]))

    def test_a_half_goes_to_the_greater_one(self):
        self.assertEqual(rounded(1, 2, 0), ([1, -1, 2], [1, 1]))
        self.assertEqual(rounded(3, 2, 0), ([1, -1, 2], [2, 1]))
        self.assertEqual(rounded(-1, 2, 0), ([1, -1, 2], [0, 1]))
        self.assertEqual(rounded(-3, 2, 0), ([1, -1, 2], [-1, 1]))
        self.assertEqual(rounded(5, 16, 3), ([1, -1, 16], [3, 8]))
        self.assertEqual(rounded(-5, 16, 3), ([1, -1, 16], [-1, 4]))

    def test_what_is_round_already(self):
        for b in (2, 3, 200):
            self.assertEqual(rounded(-11, 4, b), ([1, 0, 1], [-11, 4]))
        self.assertEqual(rounded(0, 9, 0), ([1, 0, 1], [0, 1]))

    def test_every_number_of_places(self):
        for b in range(201):
            lost, now = rounded(-10 ** 17, 3 ** 30, b)
            was, now = Fraction(-10 ** 17, 3 ** 30), Fraction(*now)
            self.assertEqual(Fraction(*lost[1:]), was - now)
            self.assertEqual(2 ** b % now.denominator, 0)
            self.assertLess(abs(was - now), Fraction(1, 2 ** (b + 1)))

    def test_nearest_is_in_lowest_terms(self):
        self.assertEqual(nearest((17, 12), 8), (11, 8))
        self.assertEqual(nearest((1, 1), 8), (1, 1))
        self.assertEqual(nearest((1, 100), 8), (0, 1))

    def test_several_inputs(self):
        held = [code(4, [(0, k) for k in range(4)], [0, 1, 2, 3]), point(1, 3, -1, 3, 5, 1, 1, 8)]
        answered = ask(*held, round_to(2), RESULTS)[2:]
        self.assertEqual(answered[0], [4, 1, 12, -1, 12, 0, 1, -1, 8])
        self.assertEqual(answered[1][:9], [4, 1, 4, -1, 4, 5, 1, 1, 4])

    def test_inputs_that_no_line_uses(self):
        self.assertEqual(last(code(2, [(1, 1, 1)], [0]), point(1, 3, 2, 3), round_to(0)), [2, 1, 3, -1, 3])

    def test_what_is_asked_behind_it_tells_of_the_new_point(self):
        square = code(1, [X, (1, 2, 1), (4, 0, 0), (3, 2, 1)], [3])
        there = ask(square, point(11, 8), *LOOKS)[2:]
        self.assertEqual(ask(square, point(17, 12), round_to(3), *LOOKS)[3:], there)
        self.assertEqual(ask(square, point(17, 12), *LOOKS, round_to(3), *LOOKS)[7:], there)

    def test_a_point_with_a_fault(self):
        self.assertEqual(ask(DIVIDES, point(0, 1), round_to(3), RESULTS)[1:], [[1, 2, 1], [1, 0, 1], [-5]])
        # 1 / (x - 1/3) has a fault at 1/3, and none at 1/2.
        lines = [X, (1, 1, 3), (3, 0, 1), (5, 1, 2)]
        calls = [code(1, lines, [3]), point(1, 3), round_to(1), RESULTS]
        self.assertEqual(ask(*calls)[1:], [[1, 3, 1], [1, -1, 6], [1, 2, 1, 4, 1]])

    def test_to_a_point_with_a_fault(self):
        self.assertEqual(ask(DIVIDES, point(1, 3), round_to(0), *LOOKS)[1:], [[0], [1, 1, 3]] + [[-5]] * 4)

    def test_without_code_there_are_no_inputs(self):
        self.assertEqual(ask(round_to(0), point(), round_to(0)), [[-4], [0], [0]])


class RoundIsRefusedTest(unittest.TestCase):
    def test_places(self):
        for b in (-1, 201, 10 ** 18, -10 ** 18):
            self.assertEqual(last(IDENTITY, point(1, 3), round_to(b)), [-1])

    def test_no_point(self):
        self.assertEqual(last(round_to(0)), [-4])
        self.assertEqual(last(IDENTITY, round_to(200)), [-4])

    def test_weights_of_2000_and_2001(self):
        # The step leads to 2 to the power 1850 over 3: with b more places both numbers have b more digits.
        held = [flat_and_low(1850, 3), point(0, 1), take(0, 1, 1)]
        for b, fits in ((0, True), (75, True), (76, False), (200, False)):
            answer = last(*held, round_to(b))
            near = 2 ** 1850 * 2 ** b // 3
            self.assertEqual((near.bit_length() + (2 ** b).bit_length() <= 2000), fits)
            if fits:
                self.assertEqual((answer[0], answer[2]), (1, 3 * 2 ** b))
            else:
                self.assertEqual(answer, [-6])

    def test_order_of_refusals(self):
        heavy = [flat_and_low(1850, 3), point(0, 1), take(0, 1, 1)]
        for before in ([], [IDENTITY], [DIVIDES, point(0, 1)], heavy):
            for b in (-1, 201):
                self.assertEqual(last(*before, round_to(b)), [-1])

    def test_everything_is_as_it_was(self):
        held = [flat_and_low(1850, 3), point(0, 1), take(0, 1, 1)]
        seen = ask(*held, *LOOKS)[3:]
        for b, refusal in ((200, -6), (201, -1)):
            self.assertEqual(ask(*held, round_to(b), *LOOKS)[3:], [[refusal]] + seen)
            self.assertEqual(ask(*held, round_to(b), round_to(0))[3:], [[refusal], last(*held, round_to(0))])


if __name__ == "__main__":
    unittest.main()
