import unittest

from exactstep import desk
from tests.asking import LEAST, NEWTON, RESULTS, TABLE, code, point

SQUARE_LESS_2 = code(1, [(0, 0), (1, 2, 1), (4, 0, 0), (3, 2, 1)], [3])
EXAMPLE = SQUARE_LESS_2 + point(3, 2)


class DeskTest(unittest.TestCase):
    def test_the_documents_example(self):
        newton = [7, 1, -1, 12, 0, 1, 0, 1]
        answered = desk.answers(EXAMPLE + RESULTS + TABLE + NEWTON + LEAST)
        self.assertEqual(answered, [1, 4, 1, 0, 5, 1, 1, 4, 1, 16, 4, 1, 1, 3, 1] + newton + newton)

    def test_the_documents_example_one_step_on(self):
        moved = SQUARE_LESS_2 + point(17, 12)
        self.assertEqual(desk.answers(moved + RESULTS), [1, 4, 1, 0, 5, 1, 1, 144, 1, 20736])

    def test_a_new_object_is_empty(self):
        self.assertEqual(desk.answers(RESULTS + TABLE + NEWTON + LEAST), [1, -4] * 4)

    def test_nothing_is_kept_from_one_time_to_the_next(self):
        calls = EXAMPLE + RESULTS + TABLE + NEWTON
        first = desk.answers(calls)
        self.assertEqual(desk.answers(RESULTS), [1, -4])
        self.assertEqual(desk.answers(calls), first)
        first.append(0)
        self.assertEqual(desk.answers(calls), first[:-1])

    def test_what_is_handed_in_is_not_changed(self):
        calls = EXAMPLE + RESULTS + TABLE + NEWTON + LEAST + code(0, [], []) + point(1, 0) + [4, 2]
        copy = list(calls)
        desk.answers(calls)
        self.assertEqual(calls, copy)

    def test_a_list_that_may_not_be_changed_for_a_while_either(self):
        class Watched(list):
            def refuse(self, *others):
                raise AssertionError("changed")
            append = extend = insert = pop = remove = clear = reverse = sort = refuse
            __setitem__ = __delitem__ = __iadd__ = __imul__ = refuse

        calls = EXAMPLE + RESULTS + TABLE + NEWTON + LEAST
        self.assertEqual(desk.answers(Watched(calls)), desk.answers(calls))

    def test_answers_are_whole_numbers(self):
        answered = desk.answers(EXAMPLE + RESULTS + TABLE + NEWTON + LEAST + [4, 2])
        self.assertIs(type(answered), list)
        self.assertEqual({type(number) for number in answered}, {int})

    def test_400_calls(self):
        self.assertEqual(desk.answers(EXAMPLE + RESULTS * 398), [1, 4, 1, 0] + [5, 1, 1, 4, 1, 16] * 398)

    def test_long_rows_are_read_whole(self):
        lines = [(1, 1, 1)] * 133
        calls = code(1, lines, [0] * 200) + code(1, [], [0]) + point(*[1] * 200) + RESULTS
        self.assertEqual(desk.answers(calls), [1, -2, 1, -2, 1, -2, 1, -4])

    def test_calls_that_are_not_there(self):
        for number in (-1, 10):
            with self.assertRaises(desk.UnknownCall):
                desk.answers([number])


if __name__ == "__main__":
    unittest.main()
