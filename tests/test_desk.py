import unittest

from movedkeys.desk import answers
from tests.asking import MOST, alarm, ask, begin, event, mark, move, rescale, take

ORDINARY = [0, 4, 2, 1, 5, 7, 2, 5, 30, 3, 20, 4, 1, 2, 5, 3,
            6, 1, 6, 1, 6, 1, 6, 1, 6, 1, 6, 2, 6, 2, 6, 2, 6, 3, 6, 3]
ORDINARY_ANSWERS = [1, 0, 1, 1, 1, 1, 1, 20, 1, 1, 3, 1, 3, 3,
                    4, 1, 5, 7, 1, 4, 2, 5, 30, 0, 3, 3, 20, 0, 4, 4, 1, 2, 0, 1, -5,
                    3, 3, 20, 0, 3, 5, 1, 0, 4, 4, 3, 3, 0, 3, 3, 20, 0, 3, 5, 3, 0]


class WholeLists(unittest.TestCase):
    def test_all_calls(self):
        self.assertEqual(answers(ORDINARY), ORDINARY_ANSWERS)

    def test_each_call_alone(self):
        for calls, given in [
            ([0, 12, 6], [1, 0]),
            ([1, 2, 3], [1, 2]),
            ([2, 1, 3], [1, 1]),
            ([3, 9], [1, 9]),
            ([4, 3, 1], [1, 2]),
            ([5, 1], [5, 2, 2, 1, 3, 1]),
            ([6, 1], [1, -5]),
        ]:
            self.assertEqual(answers(calls), given, calls)

    def test_refusals_are_one_number(self):
        calls = [0, 0, 1, 1, 100, 1, 2, 100, 1, 3, 8, 3, 7, 3, 1000001, 4, 4, 1, 5, 0, 6, 0, 6, 1, 6, 1]
        given = [1, -1, 1, -1, 1, -1, 1, 8, 1, -2, 1, -3, 1, -1, 1, -1, 1, -1, 3, 3, 8, 0, 1, -5]
        self.assertEqual(answers(calls), given)

    def test_greatest_numbers(self):
        calls = [0, MOST, MOST, 1, MOST, MOST, 2, MOST, MOST, 3, MOST, 4, MOST, MOST, 5, MOST, 6, MOST]
        self.assertEqual(answers(calls), [1, -1, 1, -1, 1, -1, 1, -3, 1, -1, 1, -1, 1, -1])

    def test_least_numbers(self):
        calls = [0, 0, 0, 1, 0, 0, 2, 0, 0, 3, 0, 4, 0, 0, 5, 0, 6, 0]
        self.assertEqual(answers(calls), [1, -1, 1, 1, 1, 1, 1, 0, 1, -1, 1, -1, 1, -1])

    def test_hundred_calls(self):
        calls = [1, 0, 1] * 50 + [6, 1] * 50
        self.assertEqual(answers(calls), [1, 1] * 50 + [4, 1, 0, 1, 1] * 50)

    def test_gives_a_list_of_ints(self):
        given = answers(ORDINARY)
        self.assertIs(type(given), list)
        for number in given:
            self.assertIs(type(number), int)


class NothingKept(unittest.TestCase):
    def test_list_is_as_it_was(self):
        calls = list(ORDINARY)
        answers(calls)
        self.assertEqual(calls, ORDINARY)

    def test_second_time_gives_the_same(self):
        calls = list(ORDINARY)
        self.assertEqual(answers(calls), answers(calls))

    def test_another_list_between(self):
        self.assertEqual(answers([6, 1]), [1, -5])
        answers([0, 12, 6, 1, 0, 1, 3, 7, 4, 0, 2])
        self.assertEqual(answers([6, 1]), [1, -5])
        self.assertEqual(answers(ORDINARY), ORDINARY_ANSWERS)

    def test_what_is_given_back_is_free(self):
        answers(ORDINARY).append(5)
        self.assertEqual(answers(ORDINARY), ORDINARY_ANSWERS)


class NewObject(unittest.TestCase):
    FIRST = [event(2, 3), alarm(1, 4), mark(5), move(1, 2), rescale(3), rescale(1), take(1), begin(3, 3),
             event(100, 0), move(4, 1), begin(0, 0), take(7)]

    def test_any_call_first(self):
        for call in self.FIRST:
            self.assertEqual(ask(call), ask(begin(4, 2), call)[1:], call)

    def test_as_behind_begin_4_2(self):
        workers = [[1], [1], [2], [2], [1], [1], [2], [2]]
        self.assertEqual(ask(*[event(key, 0) for key in range(8)]), workers)
        self.assertEqual(ask(move(3, 1), move(4, 1)), [[2], [-1]])
        self.assertEqual(ask(*[take(w) for w in range(1, 7)]), [[-5]] * 6)


if __name__ == "__main__":
    unittest.main()
