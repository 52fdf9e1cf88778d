import unittest

from tests.asking import LEAST, NEWTON, RESULTS, TABLE, ask, code, last, point, power

X = (0, 0)
TWO = (1, 2, 1)


def power_code(top_power, bottom_power, sign):
    """Code with the value 2 to one power over 2 to another, both 0 or one of them, and its last line."""
    lines = [TWO]
    found = power(lines, 0, top_power or bottom_power)
    if bottom_power:
        lines += [(1, 1, 1), (5, len(lines), found)]
        found = len(lines) - 1
    if sign < 0:
        lines.append((6, found))
        found = len(lines) - 1
    return lines, found


class PointIsTakenTest(unittest.TestCase):
    def test_no_fault(self):
        self.assertEqual(last(code(1, [X], [0]), point(3, 2)), [0])
        self.assertEqual(last(code(4, [(0, 3)], [0]), point(1, 1, 2, 1, 3, 1, 4, 1)), [0])

    def test_lowest_terms_are_not_asked_for(self):
        calls = [code(2, [(0, 0), (0, 1)], [0, 1]), point(-6, 4, 0, 10 ** 18)]
        self.assertEqual(ask(*calls, RESULTS)[1:], [[0], [2, -3, 2, 0, 1, 9, 4]])

    def test_the_new_point_takes_the_old_ones_place(self):
        calls = [code(1, [X], [0]), point(1, 1), RESULTS, TABLE, NEWTON, LEAST, point(2, 1)]
        self.assertEqual(last(*calls, RESULTS), [1, 2, 1, 4, 1])
        self.assertEqual(last(*calls, NEWTON), [1, -2, 1, 0, 1, 0, 1])

    def test_table_and_steps_are_those_of_the_new_point(self):
        calls = [code(1, [X, (4, 0, 0)], [1]), point(1, 1), TABLE, NEWTON, LEAST, point(2, 1)]
        self.assertEqual(last(*calls, TABLE), [1, 1, 4, 1])
        self.assertEqual(last(*calls, NEWTON), [1, -1, 1, 0, 1, 0, 1])
        self.assertEqual(last(*calls, LEAST), [1, -1, 1, 0, 1, 0, 1])

    def test_without_code_there_are_no_inputs(self):
        self.assertEqual(ask(point(), RESULTS, TABLE, NEWTON, LEAST), [[0], [0, 0, 1], [0, 0], [1, 0, 1], [1, 0, 1]])


class PointWithFaultTest(unittest.TestCase):
    def test_division_by_0(self):
        divides = code(1, [X, (5, 0, 0)], [1])
        self.assertEqual(last(divides, point(0, 1)), [1, 1, 1])
        self.assertEqual(last(divides, point(1, 10 ** 18)), [0])

    def test_0_over_something_is_no_fault(self):
        self.assertEqual(ask(code(1, [X, TWO, (5, 0, 1)], [2]), point(0, 1), RESULTS)[1:], [[0], [1, 0, 1, 0, 1]])

    def test_weights_of_2000_and_2001(self):
        for sign in (1, -1):
            for powers, fits in (((1998, 0), True), ((1999, 0), False), ((0, 1998), True), ((0, 1999), False)):
                lines, found = power_code(powers[0], powers[1], sign)
                answer = last(code(1, lines, [0]), point(1, 1))
                if fits:
                    self.assertEqual(answer, [0])
                else:
                    self.assertEqual((answer[0], answer[2]), (1, 2))

    def test_the_line_that_is_too_heavy(self):
        lines, found = power_code(1999, 0, 1)
        self.assertEqual(last(code(1, lines, [0]), point(1, 1)), [1, found, 2])
        lines.append((6, 0))
        self.assertEqual(last(code(1, lines, [0]), point(1, 1)), [1, found, 2])

    def test_weights_are_those_of_lowest_terms(self):
        lines, found = power_code(1500, 0, 1)
        lines += [(1, 1, 3), (4, found, len(lines)), (5, len(lines) + 1, found)]
        calls = [code(1, lines, [len(lines) - 1]), point(1, 1), RESULTS]
        self.assertEqual(ask(*calls)[1:], [[0], [1, 1, 3, 1, 9]])

    def test_the_first_fault_is_told(self):
        lines, found = power_code(1999, 0, 1)
        heavy_first = lines + [(3, 0, 0), (5, 0, len(lines))]
        self.assertEqual(last(code(1, heavy_first, [0]), point(1, 1)), [1, found, 2])
        zero_first = [TWO, (3, 0, 0), (5, 0, 1)]
        zero_line = 2
        power(zero_first, 0, 1999)
        self.assertEqual(last(code(1, zero_first, [0]), point(1, 1)), [1, zero_line, 1])

    def test_0_over_0_is_fault_1(self):
        self.assertEqual(last(code(1, [X, (5, 0, 0)], [0]), point(0, 5)), [1, 1, 1])

    def test_the_point_is_taken_all_the_same(self):
        divides = code(1, [TWO, X, (5, 0, 1)], [2])
        for behind in (RESULTS, TABLE, NEWTON, LEAST):
            self.assertEqual(last(divides, point(0, 1), behind), [-5])
            self.assertEqual(last(divides, point(1, 1), point(0, 1), behind), [-5])
            self.assertNotEqual(last(divides, point(0, 1), point(1, 1), behind), [-5])


class PointIsRefusedTest(unittest.TestCase):
    def test_not_as_many_fractions_as_inputs(self):
        one, two = code(1, [X], [0]), code(2, [X], [0])
        for numbers in ((), (1,), (1, 1, 1), (1, 1, 1, 1)):
            self.assertEqual(last(one, point(*numbers)), [-2])
        for numbers in ((), (1, 1), (1, 1, 1), (1,) * 5, (1,) * 6, (1,) * 200):
            self.assertEqual(last(two, point(*numbers)), [-2])
        self.assertEqual(last(point(1, 1)), [-2])

    def test_denominators(self):
        for bottom in (0, -1, -10 ** 18):
            self.assertEqual(last(code(1, [X], [0]), point(1, bottom)), [-2])
            self.assertEqual(last(code(2, [X], [0]), point(1, 1, 1, bottom)), [-2])

    def test_weight(self):
        # Numbers of this size are not handed in, but the promise speaks of them.
        one = code(1, [X], [0])
        self.assertEqual(last(one, point(2 ** 1998, 1)), [0])
        self.assertEqual(last(one, point(2 ** 1999, 1)), [-6])
        self.assertEqual(last(one, point(-2 ** 1999, 1)), [-6])
        self.assertEqual(last(one, point(2 ** 1999, 2 ** 1999)), [0])
        self.assertEqual(last(one, point(2 ** 1999, 0)), [-2])

    def test_everything_is_as_it_was(self):
        looks = [RESULTS, TABLE, NEWTON, LEAST]
        held = [code(1, [X, (4, 0, 0)], [1]), point(3, 1)]
        seen = ask(*held, *looks)[2:]
        for wrong, refusal in ((point(), -2), (point(7, 0), -2), (point(2 ** 1999, 1), -6)):
            self.assertEqual(ask(*held, wrong, *looks)[2:], [[refusal]] + seen)

    def test_no_point_stays_no_point(self):
        self.assertEqual(last(code(1, [X], [0]), point(1, 0), RESULTS), [-4])


if __name__ == "__main__":
    unittest.main()
