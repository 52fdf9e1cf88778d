import unittest

from tests.asking import LOOKS, RESULTS, TABLE, ask, code, error, last, point, power, steep

X = (0, 0)
SQUARE_LESS_2 = code(1, [X, (1, 2, 1), (4, 0, 0), (3, 2, 1)], [3])
DIVIDES = code(1, [X, (1, 1, 1), (5, 1, 0)], [2])


def bent(exponent):
    """Code with the result x * (x - 1) times 2 to the power: 0 at 0 and at 1, where the error is that power."""
    lines = [X, (1, 2, 1), (1, 1, 1), (3, 0, 2), (4, 0, 3)]
    return code(1, lines, [steep(lines, 4, 1, exponent)])


class ErrorTest(unittest.TestCase):
    def test_the_square_of_d(self):
        for d in ((-1, 12, 1, 144), (-2, 24, 1, 144), (1, 1, 1, 1), (3, 2, 9, 4), (0, 5, 0, 1)):
            self.assertEqual(last(SQUARE_LESS_2, point(3, 2), error(*d[:2])), [1, d[2], d[3]])

    def test_a_quotient(self):
        # 1 / x at 2 tells 1/2 - 1/4 after the step 1, where it is 1/3.
        self.assertEqual(last(DIVIDES, point(2, 1), error(1, 1)), [1, 1, 12])
        # And 1/2 + 3/4 after the step -3, where it is -1.
        self.assertEqual(last(DIVIDES, point(2, 1), error(-3, 1)), [1, -9, 4])

    def test_straight_results_have_none(self):
        lines = [(0, 0), (0, 1), (2, 0, 1), (6, 0), (1, 5, 3)]
        self.assertEqual(last(code(2, lines, [2, 3, 4, 2]), point(1, 2, 3, 4), error(5, 6, 7, 8)), [4] + [0, 1] * 4)

    def test_several_inputs_and_results(self):
        # x * y has the error d * e, x * x * y with x = 1 and y = 2: (1 + d)^2 * (2 + e) - 2 - 4 d - e.
        lines = [(0, 0), (0, 1), (4, 0, 1), (4, 0, 2)]
        held = [code(2, lines, [2, 3]), point(1, 1, 2, 1)]
        self.assertEqual(last(*held, error(3, 1, 1, 2)), [2, 3, 2, 16 * 5 - 2 * 2 - 4 * 3 * 2 - 1, 2])
        self.assertEqual(last(*held, error(0, 1, 1, 2)), [2, 0, 1, 0, 1])

    def test_four_inputs_and_six_results(self):
        lines = [(0, k) for k in range(4)] + [(4, 0, 1), (4, 2, 3)]
        held = [code(4, lines, [4, 5, 4, 5, 0, 3]), point(*[1, 1] * 4)]
        self.assertEqual(last(*held, error(2, 1, 3, 1, 1, 2, 1, 3)), [6, 6, 1, 1, 6, 6, 1, 1, 6, 0, 1, 0, 1])

    def test_the_point_is_not_changed(self):
        held = [SQUARE_LESS_2, point(3, 2)]
        seen = ask(*held, *LOOKS)[2:]
        self.assertEqual(ask(*held, error(1, 1), *LOOKS)[3:], seen)
        self.assertEqual(ask(*held, error(1, 1), error(1, 1))[2:], [[1, 1, 1]] * 2)

    def test_without_code_there_are_no_results(self):
        self.assertEqual(ask(error(), point(), error(), error(1, 1)), [[-4], [0], [0], [-2]])


class ErrorIsRefusedTest(unittest.TestCase):
    def test_not_as_many_fractions_as_inputs(self):
        two = [code(2, [X], [0]), point(1, 1, 1, 1)]
        for d in ((), (1,), (1, 1), (1, 1, 1), (1,) * 5, (1,) * 6, (1,) * 200):
            self.assertEqual(last(*two, error(*d)), [-2])
        self.assertEqual(last(SQUARE_LESS_2, point(1, 1), error()), [-2])

    def test_denominators(self):
        for bottom in (0, -1, -10 ** 18):
            self.assertEqual(last(SQUARE_LESS_2, point(1, 1), error(1, bottom)), [-2])
            self.assertEqual(last(code(2, [X], [0]), point(1, 1, 1, 1), error(1, 1, 1, bottom)), [-2])

    def test_no_point(self):
        self.assertEqual(last(SQUARE_LESS_2, error(1, 1)), [-4])

    def test_fault_at_the_point(self):
        self.assertEqual(last(DIVIDES, point(0, 1), error(1, 1)), [-5])

    def test_fault_at_the_point_plus_d(self):
        self.assertEqual(ask(DIVIDES, point(2, 1), error(-2, 1), error(-4, 2), RESULTS)[2:4], [[-5], [-5]])
        lines = [X, (1, 2, 1)]
        big = power(lines, 1, 1950)
        lines.append((4, 0, big))
        calls = [code(1, lines, [0]), point(0, 1), error(2 ** 49, 1), error(2 ** 48, 1)]
        self.assertEqual(ask(*calls)[2:], [[-5], [1, 0, 1]])

    def test_weights_of_6000_and_6001(self):
        held = [bent(5998), point(0, 1)]
        self.assertEqual(ask(*held, error(1, 1), TABLE)[2:], [[1, 2 ** 5998, 1], [1, 1, -2 ** 5998, 1]])
        held = [bent(5999), point(0, 1)]
        self.assertEqual(ask(*held, error(1, 1), *LOOKS)[2:], [[-6]] + ask(*held, *LOOKS)[2:])

    def test_a_heavy_table_may_give_light_errors(self):
        held = [bent(7600), point(0, 1)]
        self.assertEqual(ask(*held, TABLE, error(0, 1), error(1, 1))[2:], [[-6], [1, 0, 1], [-6]])

    def test_order_of_refusals(self):
        for before in ([], [SQUARE_LESS_2], [DIVIDES, point(0, 1)], [bent(5999), point(0, 1)]):
            self.assertEqual(last(*before, error(1, 0)), [-2])
            self.assertEqual(last(*before, error(1)), [-2])
        self.assertEqual(last(error(1, 1)), [-2])
        # At 1/2 the run has a fault, and what would be told would be too heavy too.
        self.assertEqual(last(bent(5999), point(0, 1), error(1, 2)), [-5])

    def test_everything_is_as_it_was(self):
        held = [DIVIDES, point(2, 1)]
        seen = ask(*held, *LOOKS)[2:]
        for wrong, refusal in ((error(), -2), (error(1, 0), -2), (error(-2, 1), -5)):
            self.assertEqual(ask(*held, wrong, *LOOKS)[2:], [[refusal]] + seen)


if __name__ == "__main__":
    unittest.main()
