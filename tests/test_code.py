import unittest

from tests.asking import LEAST, NEWTON, RESULTS, TABLE, ask, code, last, point, raw_code

X = (0, 0)
EACH_KIND = [(0, 0), (1, -3, 6), (2, 0, 1), (3, 0, 1), (4, 2, 3), (5, 4, 1), (6, 5)]


def long_code(many, outs=(0,), n=1):
    return code(n, [X] * many, outs)


class CodeIsHeldTest(unittest.TestCase):
    def test_answers_how_many_lines(self):
        self.assertEqual(last(code(1, EACH_KIND, [6])), [7])
        self.assertEqual(last(code(1, [X], [0])), [1])
        self.assertEqual(last(code(1, [(1, 0, 1)], [0])), [1])

    def test_holds_the_code_with_its_results_in_their_order(self):
        calls = [code(2, [(0, 0), (0, 1), (3, 0, 1)], [2, 0, 1, 2]), point(5, 1, 1, 2), RESULTS]
        self.assertEqual(ask(*calls), [[3], [0], [4, 9, 2, 5, 1, 1, 2, 9, 2, 263, 4]])

    def test_there_is_no_point_behind_it(self):
        one = code(1, [X], [0])
        for behind in (RESULTS, TABLE, NEWTON, LEAST):
            self.assertEqual(last(one, point(1, 1), one, behind), [-4])

    def test_new_code_takes_the_old_ones_place(self):
        calls = [code(2, [(0, 0), (0, 1)], [0, 1]), point(1, 1, 2, 1), code(1, [X, (4, 0, 0)], [1]), point(3, 1)]
        self.assertEqual(last(*calls, RESULTS), [1, 9, 1, 81, 1])
        self.assertEqual(last(*calls, TABLE), [1, 1, 6, 1])

    def test_most_lines(self):
        self.assertEqual(last(long_code(60)), [60])
        self.assertEqual(last(long_code(60, [59])), [60])

    def test_every_number_of_inputs(self):
        for n in (1, 2, 3, 4):
            self.assertEqual(last(code(n, [(0, n - 1)], [0])), [1])

    def test_every_number_of_results(self):
        for many in range(1, 7):
            self.assertEqual(last(code(1, [X], [0] * many)), [1])


class CodeIsRefusedTest(unittest.TestCase):
    def check(self, call, refusal):
        self.assertEqual(last(call), [refusal])

    def test_number_of_inputs(self):
        for n in (0, 5, -1, 10 ** 18, -10 ** 18):
            self.check(code(n, [(1, 1, 1)], [0]), -1)

    def test_kinds_of_lines(self):
        for kind in (7, -1, 10 ** 18):
            self.check(raw_code(1, [0, 0, kind, 0, 0], [0]), -2)

    def test_numbers_that_are_missing(self):
        for line in EACH_KIND:
            for length in range(1, len(line)):
                self.check(raw_code(1, list(EACH_KIND[0]) + list(line[:length]), [0]), -2)

    def test_numbers_below_0(self):
        for line in ((0, -1), (2, -1, 0), (2, 0, -1), (3, -1, 0), (3, 0, -1), (4, -1, 0), (4, 0, -1)):
            self.check(code(1, [X, line], [0]), -2)
        for line in ((5, -1, 0), (5, 0, -1), (6, -1)):
            self.check(code(1, [X, line], [0]), -2)

    def test_denominators_of_constants(self):
        for bottom in (0, -1, -10 ** 18):
            self.check(code(1, [(1, 3, bottom)], [0]), -2)
        self.assertEqual(last(code(1, [(1, -10 ** 18, 10 ** 18)], [0])), [1])

    def test_outs(self):
        for outs in ([], [0] * 7, [1], [-1], [0, 1], [0, -1], [0] * 200, [10 ** 18]):
            self.check(code(1, [X], outs), -2)

    def test_no_lines_leave_nothing_for_outs(self):
        for outs in ([], [0], [-1], [0] * 7):
            self.check(raw_code(1, [], outs), -2)

    def test_too_many_lines(self):
        for many in (61, 62, 200):
            self.check(long_code(many), -7)
        self.check(long_code(62, [61]), -7)

    def test_uses_of_lines(self):
        for kind in (2, 3, 4, 5):
            for places in ((1, 0), (0, 1), (2, 0), (0, 10 ** 18)):
                self.check(code(1, [X, (kind,) + places], [0]), -3)
            self.check(code(1, [(kind, 0, 0)], [0]), -3)
        self.check(code(1, [X, (6, 1)], [0]), -3)
        self.check(code(1, [(6, 0)], [0]), -3)
        self.check(code(1, [X, (2, 0, 2), X], [0]), -3)

    def test_uses_of_inputs(self):
        for n in (1, 2, 3, 4):
            self.check(code(n, [(0, n)], [0]), -3)
            self.check(code(n, [(0, 10 ** 18)], [0]), -3)

    def test_constants_are_not_uses(self):
        self.assertEqual(last(code(1, [(1, 99, 99)], [0])), [1])

    def test_order_of_refusals(self):
        too_many_and_wrong_use = [X] * 60 + [(0, 9)]
        self.check(raw_code(0, [7], []), -1)
        self.check(code(5, too_many_and_wrong_use, [0]), -1)
        self.check(code(1, too_many_and_wrong_use + [(1, 1, 0)], [0]), -2)
        self.check(code(1, too_many_and_wrong_use, [61]), -2)
        self.check(code(1, [(6, 5)], [1]), -2)
        self.check(code(1, too_many_and_wrong_use, [0]), -7)
        self.check(code(1, [(0, 9), (6, 5)], [0]), -3)

    def test_everything_is_as_it_was(self):
        before = [code(2, [(0, 0), (0, 1), (4, 0, 1)], [2, 0]), point(3, 2, 5, 1)]
        looks = [RESULTS, TABLE, NEWTON, LEAST]
        seen = ask(*before, *looks)[2:]
        wrong = [code(0, [X], [0]), raw_code(1, [7], [0]), code(1, [X], []), long_code(61), code(1, [(0, 1)], [0])]
        for call, refusal in zip(wrong, (-1, -2, -2, -7, -3)):
            self.assertEqual(ask(*before, call, *looks)[2:], [[refusal]] + seen)


if __name__ == "__main__":
    unittest.main()
