import unittest

from tests.asking import RESULTS, ask, code, last, point, power, powers_with, two_powers

X = (0, 0)


class ResultsTest(unittest.TestCase):
    def test_each_operation(self):
        operations = [(0, 0), (0, 1), (2, 0, 1), (3, 0, 1), (4, 0, 1), (5, 0, 1), (6, 0)]
        calls = [code(2, operations, [2, 3, 4, 5, 6]), point(-3, 4, 5, 6), RESULTS]
        values = [1, 12, -19, 12, -5, 8, -9, 10, 3, 4]
        # Over 14400 the squares are 100, 36100, 5625, 11664 and 8100.
        self.assertEqual(last(*calls), [5] + values + [61589, 14400])

    def test_the_same_line_in_both_places(self):
        calls = [code(1, [X, (2, 0, 0), (3, 0, 0), (4, 0, 0), (5, 0, 0)], [1, 2, 3, 4]), point(-2, 3), RESULTS]
        self.assertEqual(last(*calls), [4, -4, 3, 0, 1, 4, 9, 1, 1, 16 * 9 + 16 + 81, 81])

    def test_a_result_told_more_than_once_counts_each_time(self):
        calls = [code(1, [X], [0, 0, 0]), point(1, 2), RESULTS]
        self.assertEqual(last(*calls), [3, 1, 2, 1, 2, 1, 2, 3, 4])

    def test_one_and_six_results(self):
        self.assertEqual(last(code(1, [X], [0]), point(0, 3), RESULTS), [1, 0, 1, 0, 1])
        self.assertEqual(last(code(1, [X], [0] * 6), point(1, 1), RESULTS), [6] + [1, 1] * 6 + [6, 1])

    def test_constants_are_brought_to_lowest_terms(self):
        self.assertEqual(last(code(1, [(1, -6, 4)], [0]), point(0, 1), RESULTS), [1, -3, 2, 9, 4])

    def test_refusals(self):
        self.assertEqual(last(RESULTS), [-4])
        self.assertEqual(last(code(1, [X], [0]), RESULTS), [-4])
        self.assertEqual(last(code(1, [X, (5, 0, 0)], [0]), point(0, 1), RESULTS), [-5])

    def test_sums_with_weights_of_6000_and_6001(self):
        fits = ask(two_powers(*powers_with(6000)), point(0, 1), RESULTS)[1:]
        self.assertEqual((fits[0], len(fits[1])), ([0], 7))
        self.assertEqual(fits[1][5].bit_length() + fits[1][6].bit_length(), 6000)
        heavy = [two_powers(*powers_with(6001)), point(0, 1)]
        self.assertEqual(ask(*heavy, RESULTS, RESULTS)[1:], [[0], [-6], [-6]])

    def test_values_of_the_greatest_weight_are_told(self):
        lines = [(1, 1, 2)]
        found = power(lines, 0, 1998)
        answer = last(code(1, lines, [found]), point(0, 1), RESULTS)
        self.assertEqual(answer, [1, 1, 2 ** 1998, 1, 4 ** 1998])


if __name__ == "__main__":
    unittest.main()
