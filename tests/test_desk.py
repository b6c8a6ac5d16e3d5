import unittest

from movedkeys.desk import answers
from tests.asking import (MOST, alarm, ask, begin, come, event, key, mark, move, rescale, said, take, trips, turns,
                          worker)

ORDINARY = [0, 4, 2, 1, 5, 7, 2, 5, 30, 3, 20, 4, 1, 2, 5, 3,
            6, 1, 6, 1, 6, 1, 6, 1, 6, 1, 6, 2, 6, 2, 6, 2, 6, 3, 6, 3]
ORDINARY_ANSWERS = [1, 0, 1, 1, 1, 1, 1, 20, 1, 1, 3, 1, 3, 3,
                    4, 1, 5, 7, 1, 4, 2, 5, 30, 0, 3, 3, 20, 0, 4, 4, 1, 2, 0, 1, -5,
                    3, 3, 20, 0, 3, 5, 1, 0, 4, 4, 3, 3, 0, 3, 3, 20, 0, 3, 5, 3, 0]


class WholeLists(unittest.TestCase):
    def test_all_calls(self):
        self.assertEqual(answers(ORDINARY), ORDINARY_ANSWERS)

    def test_each_call_alone(self):
        for calls, given in [
            ([0, 12, 6], [1, 0]),
            ([1, 2, 3], [1, 2]),
            ([2, 1, 3], [1, 1]),
            ([3, 9], [1, 9]),
            ([4, 3, 1], [1, 2]),
            ([5, 1], [5, 2, 2, 1, 3, 1]),
            ([6, 1], [1, -5]),
            ([7, 1], [1, -5]),
            ([8, 5], [1, 0]),
            ([9, 0], [1, 0]),
            ([10, 7], [6, 3, 2, 2, 0, 0, 0]),
            ([11, 1], [6, 0, 2, 0, 1, 0, 0]),
            ([12], [1, 0]),
        ]:
            self.assertEqual(answers(calls), given, calls)

    def test_refusals_are_one_number(self):
        calls = [0, 0, 1, 1, 100, 1, 2, 100, 1, 3, 8, 3, 7, 3, 1000001, 4, 4, 1, 5, 0, 6, 0, 6, 1, 6, 1]
        given = [1, -1, 1, -1, 1, -1, 1, 8, 1, -2, 1, -3, 1, -1, 1, -1, 1, -1, 3, 3, 8, 0, 1, -5]
        self.assertEqual(answers(calls), given)

    def test_greatest_numbers(self):
        calls = [0, MOST, MOST, 1, MOST, MOST, 2, MOST, MOST, 3, MOST, 4, MOST, MOST, 5, MOST, 6, MOST,
                 7, MOST, 8, MOST, 9, MOST, 10, MOST, 11, MOST, 12]
        self.assertEqual(answers(calls), [1, -1, 1, -1, 1, -1, 1, -3, 1, -1, 1, -1, 1, -1,
                                          1, -5, 1, -1, 1, 0, 1, -1, 1, -1, 1, 0])

    def test_least_numbers(self):
        calls = [0, 0, 0, 1, 0, 0, 2, 0, 0, 3, 0, 4, 0, 0, 5, 0, 6, 0, 7, 0, 8, 0, 9, 0, 10, 0, 11, 0, 12]
        self.assertEqual(answers(calls), [1, -1, 1, 1, 1, 1, 1, 0, 1, -1, 1, -1, 1, -1,
                                          1, -5, 1, 0, 1, 0, 6, 0, 1, 1, 0, 0, 0, 1, -1, 1, 0])

    def test_all_that_move_and_tell(self):
        calls = [4, 0, 3, 1, 4, 6, 2, 0, 9, 6, 1, 12, 7, 1, 11, 3, 10, 4, 8, 3, 9, 0, 10, 4, 11, 3, 12, 7, 1, 8, 201]
        self.assertEqual(answers(calls), [
            1, 1, 1, 3, 1, 3, 4, 4, 0, 3, 0, 3, 1, 0, 3, 3, 0, 3, 0, 4, 3, 0, 0, 1, 6, 0, 3, 0, 0, 0, 0,
            1, 3, 5, 1, 3, 4, 0, 7, 6, 0, 3, 3, 1, 7, 0, 5, 0, 1, 0, 0, 0, 1, 0, 1, -5, 1, -1,
        ])

    def test_hundred_calls(self):
        calls = [1, 0, 1] * 50 + [6, 1] * 50
        self.assertEqual(answers(calls), [1, 1] * 50 + [4, 1, 0, 1, 1] * 50)

    def test_gives_a_list_of_ints(self):
        for calls in [ORDINARY, ORDINARY + [7, 1, 8, 9, 9, 0, 10, 5, 11, 1, 12]]:
            given = answers(calls)
            self.assertIs(type(given), list)
            for number in given:
                self.assertIs(type(number), int)


class LongLists(unittest.TestCase):
    def test_the_longest_of_a_hundred_calls(self):
        # No call has more than three numbers: 300 are the most.
        calls = [number for step in range(50) for number in (1, step, 7, 4, step % 4, step % 6 + 1)]
        self.assertEqual(len(calls), 300)
        given = answers(calls)
        self.assertEqual(len(given), 200)
        self.assertEqual(given[::2], [1] * 100)

    def test_hundred_calls_with_rounds_among_them(self):
        # Group 0 is moved on 46 times, to 2, 4, 6, 2, .., with an event at each.
        calls = [[event(0, 0), move(0, step % 6 + 1)][step % 2] for step in range(93)]
        given = ask(*calls, turns(200), turns(200), said(0), said(46), trips(), key(0), worker(6))
        memories = [1]
        for step in range(46):
            memories.append((31 * memories[-1] + 1) % 65521)
        spoken = [(w, 0, 0, memory) for w, memory in zip([1] + [2, 4, 6] * 16, memories)]
        self.assertEqual(len(given), 100)
        self.assertEqual(given[93:], [
            [47 + 2 * 46 + 46], [0], [47] + [number for word in spoken for number in word], [1] + list(spoken[-1]),
            [0], [0, 2, 2, 47, memories[-1], 0], [0, 0, 0, 0],
        ])

    def test_hundred_times_200_rounds(self):
        self.assertEqual(ask(*[turns(200)] * 100), [[0]] * 100)
        calls = [begin(12, 2), *[rescale(n) for n in (6, 1, 5, 2, 4, 3) * 8], *[turns(200)] * 49, trips(), worker(6)]
        self.assertEqual(len(calls), 100)
        self.assertEqual(ask(*calls)[-3:], [[0], [0], [0, 0, 0, 0]])

    def test_nearly_400_numbers(self):
        # More calls than are ever handed in: all the same, one behind another.
        calls = [event(0, 1), alarm(5, 9), mark(3), move(1, 2), take(1), come(1), turns(1), said(0), key(1), worker(2),
                 trips(), rescale(3), begin(4, 2)]
        once = answers([number for call in calls for number in call])
        flat = [number for call in calls * 13 for number in call] + [8, 200] * 11
        self.assertEqual(len(flat), 399)
        self.assertEqual(answers(flat), once * 13 + [1, 0] * 11)


class NothingKept(unittest.TestCase):
    def test_list_is_as_it_was(self):
        calls = list(ORDINARY)
        answers(calls)
        self.assertEqual(calls, ORDINARY)

    def test_second_time_gives_the_same(self):
        calls = list(ORDINARY)
        self.assertEqual(answers(calls), answers(calls))

    def test_another_list_between(self):
        self.assertEqual(answers([6, 1]), [1, -5])
        answers([0, 12, 6, 1, 0, 1, 3, 7, 4, 0, 2])
        self.assertEqual(answers([6, 1]), [1, -5])
        self.assertEqual(answers(ORDINARY), ORDINARY_ANSWERS)

    def test_what_is_given_back_is_free(self):
        answers(ORDINARY).append(5)
        self.assertEqual(answers(ORDINARY), ORDINARY_ANSWERS)


class NewObject(unittest.TestCase):
    FIRST = [event(2, 3), alarm(1, 4), mark(5), move(1, 2), rescale(3), rescale(1), take(1), begin(3, 3),
             event(100, 0), move(4, 1), begin(0, 0), take(7), come(1), turns(3), turns(201), said(0), said(4),
             key(6), key(100), worker(1), worker(2), worker(3), worker(7), trips()]

    def test_any_call_first(self):
        for call in self.FIRST:
            self.assertEqual(ask(call), ask(begin(4, 2), call)[1:], call)

    def test_as_behind_begin_4_2(self):
        workers = [[1], [1], [2], [2], [1], [1], [2], [2]]
        self.assertEqual(ask(*[event(key, 0) for key in range(8)]), workers)
        self.assertEqual(ask(move(3, 1), move(4, 1)), [[2], [-1]])
        self.assertEqual(ask(*[take(w) for w in range(1, 7)]), [[-5]] * 6)


if __name__ == "__main__":
    unittest.main()
