import unittest

from tests.asking import RESULTS, TABLE, ask, code, last, point, steep

X = (0, 0)


def steep_code(exponent):
    """Code with the one result x times 2 to the power, which has the value 0 at 0."""
    lines = [X, (1, 2, 1)]
    return code(1, lines, [steep(lines, 0, 1, exponent)])


class TableTest(unittest.TestCase):
    def test_each_operation(self):
        operations = [(0, 0), (0, 1), (2, 0, 1), (3, 0, 1), (4, 0, 1), (5, 0, 1)]
        calls = [code(2, operations, [0, 1, 2, 3, 4, 5]), point(3, 1, 5, 2), TABLE]
        rows = [1, 1, 0, 1], [0, 1, 1, 1], [1, 1, 1, 1], [1, 1, -1, 1], [5, 2, 3, 1], [2, 5, -12, 25]
        self.assertEqual(last(*calls), [6, 2] + [number for row in rows for number in row])

    def test_negative_and_constant(self):
        self.assertEqual(last(code(1, [X, (6, 0), (1, 7, 2)], [1, 2]), point(3, 1), TABLE), [2, 1, -1, 1, 0, 1])

    def test_the_same_line_in_both_places(self):
        calls = [code(1, [X, (2, 0, 0), (3, 0, 0), (4, 0, 0), (5, 0, 0)], [1, 2, 3, 4]), point(-2, 3), TABLE]
        self.assertEqual(last(*calls), [4, 1, 2, 1, 0, 1, -4, 3, 0, 1])

    def test_rules_within_one_another(self):
        # (x * y) / (x + y) has the derivatives y^2 / (x + y)^2 and x^2 / (x + y)^2.
        lines = [(0, 0), (0, 1), (4, 0, 1), (2, 0, 1), (5, 2, 3)]
        self.assertEqual(last(code(2, lines, [4]), point(1, 1, 2, 1), TABLE), [1, 2, 4, 9, 1, 9])

    def test_0_by_an_input_that_the_result_does_not_hang_on(self):
        calls = [code(4, [(0, 2)], [0]), point(1, 1, 2, 1, 3, 1, 4, 1), TABLE]
        self.assertEqual(last(*calls), [1, 4, 0, 1, 0, 1, 1, 1, 0, 1])

    def test_a_result_told_more_than_once_has_as_many_rows(self):
        self.assertEqual(last(code(1, [X, (4, 0, 0)], [1, 0, 1]), point(1, 2), TABLE), [3, 1, 1, 1, 1, 1, 1, 1])

    def test_the_most_rows_and_columns(self):
        calls = [code(4, [(0, k) for k in range(4)], [0, 1, 2, 3, 0, 1]), point(*[1] * 8), TABLE]
        answer = last(*calls)
        self.assertEqual((answer[:2], len(answer)), ([6, 4], 50))
        self.assertEqual(answer[2:10], [1, 1, 0, 1, 0, 1, 0, 1])

    def test_refusals(self):
        self.assertEqual(last(TABLE), [-4])
        self.assertEqual(last(code(1, [X], [0]), TABLE), [-4])
        self.assertEqual(last(code(1, [X, (5, 0, 0)], [0]), point(0, 1), TABLE), [-5])

    def test_weights_of_6000_and_6001(self):
        self.assertEqual(last(steep_code(5998), point(0, 1), TABLE), [1, 1, 2 ** 5998, 1])
        self.assertEqual(ask(steep_code(5999), point(0, 1), TABLE)[1:], [[0], [-6]])

    def test_everything_is_as_it_was_after_a_refusal(self):
        self.assertEqual(ask(steep_code(5999), point(0, 1), TABLE, RESULTS)[1:], [[0], [-6], [1, 0, 1, 0, 1]])


if __name__ == "__main__":
    unittest.main()
