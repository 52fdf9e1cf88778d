import unittest

from tests.asking import LOOKS, RESULTS, ask, code, halve, last, point, steep

X = (0, 0)
SQUARE_LESS_2 = code(1, [X, (1, 2, 1), (4, 0, 0), (3, 2, 1)], [3])
DIVIDES = code(1, [X, (1, 1, 1), (5, 1, 0)], [2])
IDENTITY = code(1, [X], [0])


class HalveTest(unittest.TestCase):
    def check(self, held, call, answer):
        """The same without a point, with one, and with one that has a fault; the point stays where it is."""
        self.assertEqual(last(held, call), answer)
        for start in (point(7, 3), point(0, 1)):
            seen = ask(held, start, *LOOKS)[1:]
            self.assertEqual(ask(held, start, call, *LOOKS)[1:], [seen[0], answer] + seen[1:])
        self.assertEqual(ask(held, call, *LOOKS)[2:], [[-4]] * 4)

    def test_the_documents_example(self):
        for k, ends in enumerate(([1, 1, 2, 1], [1, 1, 3, 2], [5, 4, 3, 2], [11, 8, 3, 2], [11, 8, 23, 16])):
            self.check(SQUARE_LESS_2, halve(0, k, 1, 1, 2, 1), [2] + ends)

    def test_ends_in_the_other_order(self):
        for k, ends in enumerate(([2, 1, 1, 1], [3, 2, 1, 1], [3, 2, 5, 4], [3, 2, 11, 8], [23, 16, 11, 8])):
            self.check(SQUARE_LESS_2, halve(0, k, 2, 1, 1, 1), [2] + ends)

    def test_a_result_that_falls(self):
        # 2 - x * x is below 0 at 2.
        falls = code(1, [X, (1, 2, 1), (4, 0, 0), (3, 1, 2)], [3])
        self.check(falls, halve(0, 4, 1, 1, 2, 1), [2, 11, 8, 23, 16])
        self.check(falls, halve(0, 4, 2, 1, 1, 1), [2, 23, 16, 11, 8])

    def test_ends_need_not_be_in_lowest_terms(self):
        self.check(SQUARE_LESS_2, halve(0, 0, 4, 4, 10 ** 18, 5 * 10 ** 17), [2, 1, 1, 2, 1])

    def test_a_hundred_times(self):
        answer = last(SQUARE_LESS_2, halve(0, 100, 1, 1, 2, 1))
        self.assertEqual((answer[0], max(answer[2], answer[4])), (2, 2 ** 100))
        low, high = answer[1] * (2 ** 100 // answer[2]), answer[3] * (2 ** 100 // answer[4])
        self.assertEqual(high - low, 1)
        self.assertLess(low * low, 2 * 4 ** 100)
        self.assertGreater(high * high, 2 * 4 ** 100)

    def test_a_fault_at_an_end(self):
        self.check(DIVIDES, halve(0, 5, 0, 1, 1, 1), [0])
        self.check(DIVIDES, halve(0, 5, 1, 1, 0, 1), [0])
        self.check(DIVIDES, halve(0, 5, 0, 1, 0, 1), [0])

    def test_a_fault_at_an_end_comes_ahead_of_a_zero_at_the_other(self):
        # x - 1, with a line 1 / x besides that the result doesn't hang on.
        held = code(1, [X, (1, 1, 1), (3, 0, 1), (5, 1, 0)], [2])
        self.check(held, halve(0, 5, 1, 1, 0, 1), [0])
        self.check(held, halve(0, 5, 0, 1, 1, 1), [0])
        self.check(held, halve(0, 5, 1, 1, 2, 1), [1, 1, 1])

    def test_a_heavy_value_is_a_fault(self):
        lines = [X, (1, 2, 1)]
        far = steep(lines, 0, 1, 2100)
        held = code(1, lines, [0, far])
        self.check(held, halve(0, 5, -1, 1, 0, 1), [0])
        self.check(held, halve(0, 5, 0, 1, 1, 1), [0])
        self.check(held, halve(1, 5, 0, 1, 0, 1), [1, 0, 1])

    def test_a_zero_at_an_end(self):
        self.check(IDENTITY, halve(0, 5, 0, 1, 1, 1), [1, 0, 1])
        self.check(IDENTITY, halve(0, 5, -1, 1, 0, 7), [1, 0, 1])
        # x * x - 4 is 0 at both: the first one is told.
        both = code(1, [X, (1, 4, 1), (4, 0, 0), (3, 2, 1)], [3])
        self.check(both, halve(0, 5, 2, 1, -2, 1), [1, 2, 1])
        self.check(both, halve(0, 5, -4, 2, 2, 1), [1, -2, 1])
        self.check(both, halve(0, 0, 3, 1, 4, 2), [1, 2, 1])

    def test_the_same_sign(self):
        self.check(SQUARE_LESS_2, halve(0, 5, 2, 1, 3, 1), [0])
        self.check(SQUARE_LESS_2, halve(0, 5, -1, 1, 1, 1), [0])
        self.check(SQUARE_LESS_2, halve(0, 0, -2, 1, 2, 1), [0])

    def test_ends_that_are_alike(self):
        self.check(SQUARE_LESS_2, halve(0, 5, 3, 2, 6, 4), [0])
        self.check(IDENTITY, halve(0, 5, 0, 2, 0, 3), [1, 0, 1])
        self.check(DIVIDES, halve(0, 5, 0, 1, 0, 2), [0])

    def test_a_fault_at_a_middle(self):
        self.check(DIVIDES, halve(0, 1, -1, 1, 1, 1), [0])
        self.check(DIVIDES, halve(0, 0, -1, 1, 1, 1), [2, -1, 1, 1, 1])
        # Between -1 and 3 the first middle is 1, the second 0.
        self.check(DIVIDES, halve(0, 1, -1, 1, 3, 1), [2, -1, 1, 1, 1])
        self.check(DIVIDES, halve(0, 2, -1, 1, 3, 1), [0])

    def test_a_fault_at_a_middle_comes_ahead_of_a_zero_there(self):
        self.check(code(1, [X, (5, 0, 0)], [0]), halve(0, 3, -1, 1, 1, 1), [0])

    def test_a_zero_at_a_middle(self):
        self.check(IDENTITY, halve(0, 1, -1, 1, 1, 1), [1, 0, 1])
        self.check(IDENTITY, halve(0, 100, -1, 1, 1, 1), [1, 0, 1])
        # x - 1/4 between 0 and 1: the middles are 1/2 and 1/4.
        held = code(1, [X, (1, 1, 4), (3, 0, 1)], [2])
        self.check(held, halve(0, 1, 0, 1, 1, 1), [2, 0, 1, 1, 2])
        self.check(held, halve(0, 2, 0, 1, 1, 1), [1, 1, 4])
        self.check(held, halve(0, 3, 1, 1, 0, 1), [1, 1, 4])

    def test_the_place_of_a_result(self):
        # The results are x - 2, x, x - 2 again and x + 5.
        lines = [X, (1, 2, 1), (3, 0, 1), (1, 5, 1), (2, 0, 3)]
        held = code(1, lines, [2, 0, 2, 4])
        for i, answer in enumerate(([2, 1, 1, 7, 2], [2, -3, 2, 1, 1], [2, 1, 1, 7, 2], [0])):
            self.check(held, halve(i, 2, -4, 1, 6, 1), answer)

    def test_the_greatest_ends(self):
        great = 10 ** 18
        middle = [-great * great + great - 1, 2 * great]
        self.check(IDENTITY, halve(0, 1, -great, 1, great - 1, great), [2] + middle + [great - 1, great])


class HalveIsRefusedTest(unittest.TestCase):
    def test_places(self):
        held = code(1, [X, X], [0, 1, 0])
        for i in (-1, 3, 10 ** 18, -10 ** 18):
            self.assertEqual(last(held, halve(i, 1, -1, 1, 1, 1)), [-1])
        for i in (0, 1, 2):
            self.assertEqual(last(held, halve(i, 1, -1, 1, 1, 1)), [1, 0, 1])

    def test_how_often(self):
        for k in (-1, 101, 10 ** 18, -10 ** 18):
            self.assertEqual(last(IDENTITY, halve(0, k, 0, 1, 1, 1)), [-1])

    def test_ends(self):
        for ends in ((), (1, 1), (1, 1, 1), (1,) * 5, (1,) * 6, (1,) * 200, (0, 0, 1, 1), (0, 1, 1, -1)):
            self.assertEqual(last(IDENTITY, halve(0, 1, *ends)), [-2])

    def test_more_than_one_input(self):
        for n in (2, 3, 4):
            self.assertEqual(last(code(n, [X], [0]), halve(0, 1, -1, 1, 1, 1)), [-8])
            self.assertEqual(last(code(n, [X], [0]), point(*[1, 1] * n), halve(0, 1, -1, 1, 1, 1)), [-8])

    def test_before_any_code(self):
        self.assertEqual(ask(halve(0, 1, -1, 1, 1, 1), point(), halve(0, 1, -1, 1, 1, 1)), [[-1], [0], [-1]])
        self.assertEqual(last(halve(0, 1)), [-1])

    def test_weight(self):
        # Ends of this size are not handed in, but the promise speaks of them.
        held = code(1, [(1, 0, 1)], [0])
        self.assertEqual(last(held, halve(0, 1, 2 ** 5998, 1, 0, 1)), [1, 2 ** 5998, 1])
        self.assertEqual(ask(held, point(1, 1), halve(0, 1, 2 ** 5999, 1, 0, 1), RESULTS)[2:], [[-6], [1, 0, 1, 0, 1]])

    def test_order_of_refusals(self):
        two = code(2, [X], [0])
        for before in ([], [two], [IDENTITY]):
            self.assertEqual(last(*before, halve(1, 1, 1, 0)), [-1])
            self.assertEqual(last(*before, halve(0, 101, 1)), [-1])
        self.assertEqual(last(two, halve(0, 1, 1, 1)), [-2])
        self.assertEqual(last(two, halve(0, 1, 1, 1, 1, 0)), [-2])
        self.assertEqual(last(two, halve(0, 101, 0, 1, 1, 1)), [-1])

    def test_everything_is_as_it_was(self):
        held = [SQUARE_LESS_2, point(3, 2)]
        seen = ask(*held, *LOOKS)[2:]
        for wrong, refusal in ((halve(1, 1, 0, 1, 1, 1), -1), (halve(0, 1, 0, 1), -2)):
            self.assertEqual(ask(*held, wrong, *LOOKS)[2:], [[refusal]] + seen)
        two = [code(2, [(0, 0), (0, 1)], [0, 1]), point(1, 1, 2, 1)]
        seen = ask(*two, *LOOKS)[2:]
        self.assertEqual(ask(*two, halve(0, 1, -1, 1, 1, 1), *LOOKS)[2:], [[-8]] + seen)


if __name__ == "__main__":
    unittest.main()
