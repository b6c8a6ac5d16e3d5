import unittest

from tests.asking import (MOST, alarm, ask, begin, come, event, house_after, key, last, mark, move, picture, rescale,
                          said, take, trips, turns, worker)

LOOK = [said(0), trips(), *[worker(w) for w in range(1, 7)], *[key(k) for k in range(12)]]
# Behind these a group is on its way, one came early, one is waited for with something that waits; some was said.
MIDST = [begin(6, 2), event(0, 5), alarm(6, 3), alarm(1, 90), mark(7), *[take(1)] * 4, move(0, 3), move(1, 4),
         move(2, 5), event(2, 1), *[take(1)] * 3, *[take(5)] * 3, come(1)]


def owners_of(groups, n):
    return [answer[0] for answer in ask(begin(groups, n), *[event(g, 0) for g in range(groups)])[1:]]


class Begin(unittest.TestCase):
    def test_whose_each_group_is(self):
        for groups, n, owners in [
            (4, 2, [1, 1, 2, 2]),
            (5, 3, [1, 1, 2, 2, 3]),
            (5, 2, [1, 1, 1, 2, 2]),
            (3, 6, [1, 3, 5]),
            (2, 6, [1, 4]),
            (1, 6, [1]),
            (1, 1, [1]),
            (12, 1, [1] * 12),
            (12, 6, [1, 1, 2, 2, 3, 3, 4, 4, 5, 5, 6, 6]),
            (7, 5, [1, 1, 2, 3, 3, 4, 5]),
        ]:
            self.assertEqual(owners_of(groups, n), owners, (groups, n))

    def test_owner_holds_it(self):
        for groups in range(1, 13):
            for n in range(1, 7):
                for g, w in enumerate(owners_of(groups, n)):
                    self.assertEqual(last(begin(groups, n), event(g, 9), take(w)), [1, g, 9, 1])

    def test_key_is_in_group_modulo(self):
        self.assertEqual(ask(begin(12, 6), event(99, 0), event(11, 0), event(12, 0)), [[0], [2], [6], [1]])
        self.assertEqual(ask(begin(1, 6), event(99, 0), alarm(98, 0)), [[0], [1], [1]])

    def test_refused(self):
        for groups, n in [(0, 1), (13, 1), (MOST, 1), (1, 0), (1, 7), (1, MOST), (0, 0), (13, 7), (MOST, MOST)]:
            self.assertEqual(ask(begin(groups, n)), [[-1]], (groups, n))

    def test_edges_that_are_taken(self):
        for groups, n in [(1, 1), (12, 1), (1, 6), (12, 6)]:
            self.assertEqual(ask(begin(groups, n)), [[0]], (groups, n))

    def test_everything_is_new(self):
        used = [event(0, 5), take(1), event(0, 5), alarm(1, 9), mark(7), move(0, 6), rescale(5), take(1), take(6)]
        self.assertEqual(picture(house_after(*used, begin(4, 2))), picture(house_after()))
        self.assertEqual(picture(house_after(*used, begin(9, 4))), picture(house_after(begin(9, 4))))

    def test_queues_are_empty_and_no_mark(self):
        answers = ask(event(0, 1), mark(9), move(1, 4), begin(4, 2), mark(0))
        self.assertEqual(answers, [[1], [9], [1], [0], [0]])
        takes = [take(w) for w in range(1, 7)]
        self.assertEqual(ask(event(0, 1), mark(9), move(1, 4), begin(4, 2), *takes)[4:], [[-5]] * 6)

    def test_moved_groups_are_back(self):
        self.assertEqual(last(move(0, 6), begin(4, 2), event(0, 0)), [1])

    def test_heard_mark_and_alarms_are_gone(self):
        self.assertEqual(last(mark(9), take(1), begin(4, 2), alarm(0, 9), take(1)), [2, 0, 9, 0])
        self.assertEqual(last(alarm(0, 9), take(1), begin(4, 2), mark(9), take(1)), [3, 9, 0])


class InTheMidst(unittest.TestCase):
    def test_there_is_something_of_all(self):
        self.assertEqual(ask(*MIDST, *LOOK)[len(MIDST):len(MIDST) + 8], [
            [2, 1, 0, 0, 6, 1, 6, 1, 3], [2, 1, 4, 2, 5], [0, 0, 0, 0], [1, 3, 3, 4, 5, 0, 0], [2, 0, 0, 1],
            [2, 0, 0, 0], [0, 0, 1, 2, 1, 0], [1, 0, 0, 0],
        ])

    def test_everything_is_new(self):
        for groups, n in [(1, 1), (4, 2), (6, 2), (12, 6)]:
            fresh = ask(begin(groups, n), *LOOK)
            self.assertEqual(ask(*MIDST, begin(groups, n), *LOOK)[len(MIDST):], fresh, (groups, n))
            self.assertEqual(ask(*MIDST, turns(3), begin(groups, n), turns(200), *LOOK)[len(MIDST) + 2:],
                             [[0]] + fresh[1:], (groups, n))

    def test_nothing_said_and_nobody_on_its_way(self):
        self.assertEqual(ask(*MIDST, begin(2, 2), said(0), trips(), come(1), key(0), key(1), worker(1), worker(5))[-7:],
                         [[0], [0], [-5], [0, 1, 1, 0, 0, 0], [1, 2, 2, 0, 0, 0], [0, 1, 0, 0, 0], [0, 0, 0, 0]])

    def test_a_life_goes_on_as_in_a_new_one(self):
        life = [event(3, 1), move(3, 6), alarm(3, 2), mark(2), turns(4), *LOOK]
        self.assertEqual(ask(*MIDST, begin(5, 3), *life)[len(MIDST):], ask(begin(5, 3), *life))

    def test_behind_a_refused_one_all_is_as_it_was(self):
        before = ask(*MIDST, *LOOK)[len(MIDST):]
        for groups, n in [(0, 2), (13, 2), (4, 0), (4, 7), (MOST, MOST)]:
            self.assertEqual(ask(*MIDST, begin(groups, n), *LOOK)[len(MIDST):], [[-1]] + before, (groups, n))


if __name__ == "__main__":
    unittest.main()
