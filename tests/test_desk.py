import random
import unittest

from exactstep import desk
from tests.asking import LEAST, NEWTON, RESULTS, TABLE, ask, code, descend, error, halve, last, parted, point
from tests.asking import round_to, take
from tests.model import model_answers

SQUARE_LESS_2 = code(1, [(0, 0), (1, 2, 1), (4, 0, 0), (3, 2, 1)], [3])
ALL_SORTS = [
    SQUARE_LESS_2, point(3, 2), RESULTS, TABLE, NEWTON, LEAST, error(-1, 12), halve(0, 4, 1, 1, 2, 1),
    take(0, 1, 2), descend(1, 3), round_to(3), RESULTS,
]
WRONG = [code(0, [], []), point(1, 0), [4, 2], take(0, 1, 0), descend(0, 21), error(1, 0), halve(1, 0), round_to(201)]


def joined(calls):
    return [number for call in calls for number in call]


class ExampleTest(unittest.TestCase):
    def test_the_result_the_derivative_and_the_step(self):
        newton = [1, -1, 12, 0, 1, 0, 1]
        answered = ask(SQUARE_LESS_2, point(3, 2), RESULTS, TABLE, NEWTON, LEAST)
        self.assertEqual(answered, [[4], [0], [1, 1, 4, 1, 16], [1, 1, 3, 1], newton, newton])

    def test_the_whole_of_it(self):
        calls = [
            SQUARE_LESS_2, point(3, 2), RESULTS, TABLE, NEWTON, error(-1, 12), take(0, 1, 1), RESULTS,
            round_to(3), halve(0, 4, 1, 1, 2, 1), RESULTS,
        ]
        self.assertEqual(ask(*calls), [
            [4], [0], [1, 1, 4, 1, 16], [1, 1, 3, 1], [1, -1, 12, 0, 1, 0, 1], [1, 1, 144], [1, 0],
            [1, 1, 144, 1, 20736], [1, 1, 24], [2, 11, 8, 23, 16], [1, -7, 64, 49, 4096],
        ])

    def test_as_one_list(self):
        calls = SQUARE_LESS_2 + point(3, 2) + take(0, 1, 1) + round_to(3)
        self.assertEqual(calls, [0, 1, 11, 0, 0, 1, 2, 1, 4, 0, 0, 3, 2, 1, 1, 3, 1, 2, 3, 2, 5, 0, 1, 1, 9, 3])
        self.assertEqual(desk.answers(calls), [1, 4, 1, 0, 2, 1, 0, 3, 1, 1, 24])
        calls = SQUARE_LESS_2 + point(3, 2) + error(-1, 12) + halve(0, 4, 1, 1, 2, 1) + descend(0, 2)
        self.assertEqual(calls[20:], [7, 2, -1, 12, 8, 0, 4, 4, 1, 1, 2, 1, 6, 0, 2])
        self.assertEqual(desk.answers(calls), [1, 4, 1, 0, 3, 1, 1, 144, 5, 2, 11, 8, 23, 16, 6, 2, 0, 1, 16, 1, 20736])


class DeskTest(unittest.TestCase):
    def test_a_new_object_is_empty(self):
        calls = [RESULTS, TABLE, NEWTON, LEAST, take(0, 1, 1), descend(0, 0), error(), round_to(0)]
        self.assertEqual(ask(*calls), [[-4]] * 8)
        self.assertEqual(ask(point(1, 1), error(1, 1), halve(0, 0, 0, 1, 1, 1)), [[-2], [-2], [-1]])

    def test_code_without_a_point(self):
        calls = [RESULTS, TABLE, NEWTON, LEAST, take(0, 1, 1), descend(0, 0), error(1, 1), round_to(0)]
        self.assertEqual(ask(SQUARE_LESS_2, *calls)[1:], [[-4]] * 8)
        self.assertEqual(last(SQUARE_LESS_2, halve(0, 0, 1, 1, 2, 1)), [2, 1, 1, 2, 1])

    def test_an_empty_point_before_any_code(self):
        calls = [take(0, 1, 1), take(1, 1, 1), descend(0, 3), descend(1, 3), error(), round_to(5), RESULTS]
        self.assertEqual(ask(point(), *calls), [[0], [1, 0], [1, 0], [1], [1], [0], [0], [0, 0, 1]])

    def test_new_code_takes_the_point_away(self):
        for moved in (take(0, 1, 1), descend(0, 1), round_to(1)):
            calls = [SQUARE_LESS_2, point(3, 2), moved, SQUARE_LESS_2, round_to(1), RESULTS]
            self.assertEqual(ask(*calls)[4:], [[-4]] * 2)

    def test_all_sorts_in_any_order(self):
        for seed in range(200):
            calls = ALL_SORTS + WRONG
            random.Random(seed).shuffle(calls)
            with self.subTest(seed=seed):
                self.assertEqual(desk.answers(joined(calls)), model_answers([parted(call) for call in calls]))

    def test_nothing_is_kept_from_one_time_to_the_next(self):
        calls = joined(ALL_SORTS)
        first = desk.answers(calls)
        self.assertEqual(desk.answers(RESULTS + round_to(0) + halve(0, 0, 1, 1, 2, 1)), [1, -4, 1, -4, 1, -1])
        other = joined([code(2, [(0, 0), (0, 1), (4, 0, 1)], [2]), point(1, 1, 2, 1), take(1, 1, 1), RESULTS])
        second = desk.answers(other)
        self.assertEqual(desk.answers(calls), first)
        self.assertEqual(desk.answers(other), second)
        first.append(0)
        self.assertEqual(desk.answers(calls), first[:-1])

    def test_what_is_handed_in_is_not_changed(self):
        calls = joined(ALL_SORTS + WRONG)
        copy = list(calls)
        desk.answers(calls)
        self.assertEqual(calls, copy)

    def test_a_list_that_may_not_be_changed_for_a_while_either(self):
        class Watched(list):
            def refuse(self, *others):
                raise AssertionError("changed")
            append = extend = insert = pop = remove = clear = reverse = sort = refuse
            __setitem__ = __delitem__ = __iadd__ = __imul__ = refuse

        calls = joined(ALL_SORTS + WRONG)
        self.assertEqual(desk.answers(Watched(calls)), desk.answers(calls))

    def test_answers_are_whole_numbers(self):
        answered = desk.answers(joined(ALL_SORTS + WRONG))
        self.assertIs(type(answered), list)
        self.assertEqual({type(number) for number in answered}, {int})

    def test_400_calls(self):
        held = [SQUARE_LESS_2, point(3, 2)]
        self.assertEqual(ask(*held, *[RESULTS] * 398), [[4], [0]] + [[1, 1, 4, 1, 16]] * 398)
        self.assertEqual(ask(*held, *[error(-1, 12)] * 398)[2:], [[1, 1, 144]] * 398)
        self.assertEqual(ask(*held, *[halve(0, 4, 1, 1, 2, 1)] * 398)[2:], [[2, 11, 8, 23, 16]] * 398)

    def test_400_calls_that_move_the_point(self):
        held = [SQUARE_LESS_2, point(3, 2)]
        for moves in ([take(0, 1, 1), round_to(20)], [descend(0, 3), round_to(9)], [take(0, -1, 3), round_to(2)]):
            calls = held + moves * 199
            self.assertEqual(desk.answers(joined(calls)), model_answers([parted(call) for call in calls]))

    def test_400_descents_and_takes(self):
        # Behind seven steps the square of the next point is too heavy for a line.
        held = [SQUARE_LESS_2, point(3, 2)]
        answered = ask(*held, *[descend(0, 20)] * 398)[2:]
        self.assertEqual([answer[:2] for answer in answered], [[2, 0]] * 7 + [[1]] * 391)
        answered = ask(*held, *[take(0, 1, 1)] * 398)[2:]
        self.assertEqual(answered, [[1, 0]] * 7 + [[1, 1, 2, 2]] + [[-5]] * 390)

    def test_long_rows_are_read_whole(self):
        lines = [(1, 1, 1)] * 133
        calls = [code(1, lines, [0] * 200), code(1, [], [0]), point(*[1] * 200), error(*[1] * 200)]
        self.assertEqual(ask(*calls, RESULTS), [[-2], [-2], [-2], [-2], [-4]])
        calls = [SQUARE_LESS_2, halve(0, 1, *[1] * 200), halve(0, 1, 1, 1, 2, 1)]
        self.assertEqual(ask(*calls)[1:], [[-2], [2, 1, 1, 3, 2]])

    def test_calls_that_are_not_there(self):
        for number in (-1, 10):
            with self.assertRaises(desk.UnknownCall):
                desk.answers([number])


if __name__ == "__main__":
    unittest.main()
