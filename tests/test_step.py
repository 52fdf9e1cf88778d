import unittest

from tests.asking import LEAST, NEWTON, RESULTS, TABLE, ask, code, last, point, power, powers_with
from tests.asking import steep, steep_and_high, steep_and_long, two_powers

X = (0, 0)


def straight(rows, n):
    """Code over n inputs: for each row its numbers times the inputs, and its last number besides."""
    lines = [(0, k) for k in range(n)]
    outs = []
    for row in rows:
        lines.append((1, row[n], 1))
        total = len(lines) - 1
        for k in range(n):
            if row[k] != 0:
                lines += [(1, row[k], 1), (4, len(lines), k), (2, total, len(lines) + 1)]
                total = len(lines) - 1
        outs.append(total)
    return code(n, lines, outs)


def at_zero(rows, kind, n):
    return last(straight(rows, n), point(*[0, 1] * n), kind)


class NewtonTest(unittest.TestCase):
    def test_one_input(self):
        self.assertEqual(at_zero([[2, 3]], NEWTON, 1), [1, -3, 2, 0, 1, 0, 1])

    def test_two_inputs(self):
        # x + y - 3 and x - y - 1 are 0 at 2 and 1.
        self.assertEqual(at_zero([[1, 1, -3], [1, -1, -1]], NEWTON, 2), [1, 2, 1, 1, 1, 0, 1, 0, 1, 0, 1])

    def test_a_row_that_has_to_change_its_place(self):
        self.assertEqual(at_zero([[0, 2, -6], [5, 0, -5]], NEWTON, 2), [1, 1, 1, 3, 1, 0, 1, 0, 1, 0, 1])

    def test_three_and_four_inputs(self):
        three = [[0, 1, 1, -5], [1, 0, 1, -4], [1, 1, 0, -3]]
        self.assertEqual(at_zero(three, NEWTON, 3), [1, 1, 1, 2, 1, 3, 1] + [0, 1] * 4)
        four = [[0, 0, 0, 2, -8], [0, 0, 3, 1, -13], [1, 1, 1, 1, -10], [1, -1, 0, 0, 1]]
        self.assertEqual(at_zero(four, NEWTON, 4), [1, 1, 1, 2, 1, 3, 1, 4, 1] + [0, 1] * 5)

    def test_more_results_than_inputs_that_agree(self):
        self.assertEqual(at_zero([[1, -2], [3, -6], [0, 0]], NEWTON, 1), [1, 2, 1] + [0, 1] * 4)

    def test_none_where_results_do_not_agree(self):
        self.assertEqual(at_zero([[1, -2], [1, -3]], NEWTON, 1), [0])
        self.assertEqual(at_zero([[1, -2], [0, 1]], NEWTON, 1), [0])
        self.assertEqual(at_zero([[1, 1, 0], [2, 2, 1]], NEWTON, 2), [0])
        self.assertEqual(at_zero([[1, 0, 1], [0, 1, 1], [1, 1, 1]], NEWTON, 2), [0])

    def test_none_where_there_are_several(self):
        self.assertEqual(at_zero([[1, 1, 0]], NEWTON, 2), [0])
        self.assertEqual(at_zero([[1, 1, -2], [2, 2, -4]], NEWTON, 2), [0])
        self.assertEqual(at_zero([[0, 0]], NEWTON, 1), [0])

    def test_none_where_the_derivative_is_0(self):
        self.assertEqual(last(code(1, [X, (4, 0, 0)], [1]), point(0, 1), NEWTON), [0])
        lines = [X, (4, 0, 0), (1, 2, 1), (3, 1, 2)]
        self.assertEqual(last(code(1, lines, [3]), point(0, 1), NEWTON), [0])

    def test_weights_of_6000_and_6001(self):
        self.assertEqual(last(steep_and_high(5998), point(0, 1), NEWTON), [1, -1, 2 ** 5998, 0, 1, 0, 1])
        self.assertEqual(last(steep_and_high(5999), point(0, 1), NEWTON), [-6])
        self.assertEqual(last(steep_and_high(5999), point(0, 1), LEAST), [-6])

    def test_long_steps(self):
        for many in (1, 2, 3):
            self.assertEqual(last(steep_and_long(many), point(0, 1), NEWTON)[:2], [1, -(10 ** 18 - 33) ** (16 * many)])
        for many in (4, 5, 10, 40):
            for kind in (NEWTON, LEAST):
                self.assertEqual(last(steep_and_long(many), point(0, 1), kind), [-6])

    def test_a_heavy_table_may_give_a_light_step(self):
        lines = [X, (1, 2, 1)]
        found = steep(lines, 0, 1, 7600)
        held = [code(1, lines, [found]), point(0, 1)]
        self.assertEqual(ask(*held, TABLE, NEWTON, LEAST)[2:], [[-6]] + [[1] + [0, 1] * 3] * 2)


class LeastSquaresTest(unittest.TestCase):
    def test_the_mean(self):
        # x - 1, x - 2 and x - 6 are least together at 3.
        self.assertEqual(at_zero([[1, -1], [1, -2], [1, -6]], LEAST, 1), [1, 3, 1, 2, 1, 1, 1, -3, 1, 14, 1])

    def test_a_line_through_points(self):
        # Through (0, 0), (1, 1), (2, 1): a = 1/6, b = 1/2.
        rows = [[1, 0, 0], [1, 1, -1], [1, 2, -1]]
        self.assertEqual(at_zero(rows, LEAST, 2), [1, 1, 6, 1, 2, 1, 6, -1, 3, 1, 6, 1, 6])

    def test_results_with_different_denominators_keep_their_weights(self):
        # x / 2 - 1 and x / 3 - 1: (1/4 + 1/9) d = 1/2 + 1/3.
        lines = [X, (1, 1, 2), (1, 1, 3), (1, 1, 1), (4, 0, 1), (4, 0, 2), (3, 4, 3), (3, 5, 3)]
        answer = last(code(1, lines, [6, 7]), point(0, 1), LEAST)
        self.assertEqual(answer, [1, 30, 13, 2, 13, -3, 13, 1, 13])

    def test_a_result_told_more_than_once_counts_each_time(self):
        lines = [X, (1, 3, 1), (3, 0, 1)]
        self.assertEqual(last(code(1, lines, [0, 2, 2]), point(0, 1), LEAST), [1, 2, 1, 2, 1, -1, 1, -1, 1, 6, 1])

    def test_same_as_newton_where_that_is_there(self):
        for rows, n in (([[2, 3]], 1), ([[1, 1, -3], [1, -1, -1]], 2), ([[1, -2], [3, -6]], 1)):
            self.assertEqual(at_zero(rows, LEAST, n), at_zero(rows, NEWTON, n))

    def test_the_last_column_is_free(self):
        self.assertEqual(at_zero([[1, 1, -3]], LEAST, 2), [1, 3, 1, 0, 1, 0, 1, 0, 1])

    def test_the_first_column_is_free(self):
        self.assertEqual(at_zero([[0, 2, -3]], LEAST, 2), [1, 0, 1, 3, 2, 0, 1, 0, 1])

    def test_a_column_between_is_free(self):
        rows = [[1, 2, 0, -1], [0, 0, 1, -5]]
        self.assertEqual(at_zero(rows, LEAST, 3), [1, 1, 1, 0, 1, 5, 1, 0, 1, 0, 1, 0, 1])

    def test_all_columns_are_free(self):
        self.assertEqual(at_zero([[0, 0, 7]], LEAST, 2), [1, 0, 1, 0, 1, 7, 1, 49, 1])

    def test_four_inputs_and_one_result(self):
        self.assertEqual(at_zero([[0, 3, 1, 1, -6]], LEAST, 4), [1, 0, 1, 2, 1, 0, 1, 0, 1, 0, 1, 0, 1])

    def test_a_sum_of_squares_with_a_weight_of_6000_and_6001(self):
        # All columns are free, so the straight picture is the results as they are.
        self.assertEqual(len(last(two_powers(*powers_with(6000)), point(0, 1), LEAST)), 9)
        self.assertEqual(last(two_powers(*powers_with(6001)), point(0, 1), LEAST), [-6])

    def test_a_picture_that_is_too_heavy(self):
        # With c = 1 / 5^850 and a = 1 / 3^exponent: c * x and a * c * x + c have the step -a / (1 + a * a).
        # After it the straight picture tells that times c of the first result, and more of the second.
        for exponent, fits in ((100, True), (1000, False)):
            lines = [X, (1, 1, 3), (1, 1, 5)]
            a, c = power(lines, 1, exponent), power(lines, 2, 850)
            lines += [(4, 0, c), (4, len(lines), a), (2, len(lines) + 1, c)]
            answer = last(code(1, lines, [len(lines) - 3, len(lines) - 1]), point(0, 1), LEAST)
            step = (-3 ** exponent, 9 ** exponent + 1)
            self.assertLessEqual(step[0].bit_length() + step[1].bit_length(), 6000)
            if fits:
                self.assertEqual(len(answer), 9)
                self.assertEqual(answer[1] * step[1], answer[2] * step[0])
            else:
                self.assertEqual(answer, [-6])


class StepIsRefusedTest(unittest.TestCase):
    def test_kinds(self):
        held = [code(1, [X], [0]), point(1, 1)]
        for kind in (2, -1, 10 ** 18, -10 ** 18):
            self.assertEqual(last(*held, [4, kind]), [-1])

    def test_no_point(self):
        for kind in (NEWTON, LEAST):
            self.assertEqual(last(kind), [-4])
            self.assertEqual(last(code(1, [X], [0]), kind), [-4])

    def test_fault(self):
        for kind in (NEWTON, LEAST):
            self.assertEqual(last(code(1, [X, (5, 0, 0)], [0]), point(0, 1), kind), [-5])

    def test_order_of_refusals(self):
        self.assertEqual(last([4, 2]), [-1])
        self.assertEqual(last(code(1, [X, (5, 0, 0)], [0]), point(0, 1), [4, 2]), [-1])

    def test_everything_is_as_it_was(self):
        held = [steep_and_high(5999), point(0, 1)]
        self.assertEqual(ask(*held, NEWTON, [4, 2], RESULTS)[2:], [[-6], [-1], [1, 1, 1, 1, 1]])

    def test_the_point_stays_where_it_is(self):
        held = [code(1, [X], [0]), point(5, 1)]
        self.assertEqual(ask(*held, NEWTON, LEAST, RESULTS)[-1], [1, 5, 1, 25, 1])


if __name__ == "__main__":
    unittest.main()
