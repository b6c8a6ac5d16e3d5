import unittest

from tests.asking import MOST, alarm, ask, begin, event, house_after, last, mark, move, picture, rescale, take


def owners_of(groups, n):
    return [answer[0] for answer in ask(begin(groups, n), *[event(g, 0) for g in range(groups)])[1:]]


class Begin(unittest.TestCase):
    def test_whose_each_group_is(self):
        for groups, n, owners in [
            (4, 2, [1, 1, 2, 2]),
            (5, 3, [1, 1, 2, 2, 3]),
            (5, 2, [1, 1, 1, 2, 2]),
            (3, 6, [1, 3, 5]),
            (2, 6, [1, 4]),
            (1, 6, [1]),
            (1, 1, [1]),
            (12, 1, [1] * 12),
            (12, 6, [1, 1, 2, 2, 3, 3, 4, 4, 5, 5, 6, 6]),
            (7, 5, [1, 1, 2, 3, 3, 4, 5]),
        ]:
            self.assertEqual(owners_of(groups, n), owners, (groups, n))

    def test_owner_holds_it(self):
        for groups in range(1, 13):
            for n in range(1, 7):
                for g, w in enumerate(owners_of(groups, n)):
                    self.assertEqual(last(begin(groups, n), event(g, 9), take(w)), [1, g, 9, 1])

    def test_key_is_in_group_modulo(self):
        self.assertEqual(ask(begin(12, 6), event(99, 0), event(11, 0), event(12, 0)), [[0], [2], [6], [1]])
        self.assertEqual(ask(begin(1, 6), event(99, 0), alarm(98, 0)), [[0], [1], [1]])

    def test_refused(self):
        for groups, n in [(0, 1), (13, 1), (MOST, 1), (1, 0), (1, 7), (1, MOST), (0, 0), (13, 7), (MOST, MOST)]:
            self.assertEqual(ask(begin(groups, n)), [[-1]], (groups, n))

    def test_edges_that_are_taken(self):
        for groups, n in [(1, 1), (12, 1), (1, 6), (12, 6)]:
            self.assertEqual(ask(begin(groups, n)), [[0]], (groups, n))

    def test_everything_is_new(self):
        used = [event(0, 5), take(1), event(0, 5), alarm(1, 9), mark(7), move(0, 6), rescale(5), take(1), take(6)]
        self.assertEqual(picture(house_after(*used, begin(4, 2))), picture(house_after()))
        self.assertEqual(picture(house_after(*used, begin(9, 4))), picture(house_after(begin(9, 4))))

    def test_queues_are_empty_and_no_mark(self):
        answers = ask(event(0, 1), mark(9), move(1, 4), begin(4, 2), mark(0))
        self.assertEqual(answers, [[1], [9], [1], [0], [0]])
        takes = [take(w) for w in range(1, 7)]
        self.assertEqual(ask(event(0, 1), mark(9), move(1, 4), begin(4, 2), *takes)[4:], [[-5]] * 6)

    def test_moved_groups_are_back(self):
        self.assertEqual(last(move(0, 6), begin(4, 2), event(0, 0)), [1])

    def test_heard_mark_and_alarms_are_gone(self):
        self.assertEqual(last(mark(9), take(1), begin(4, 2), alarm(0, 9), take(1)), [2, 0, 9, 0])
        self.assertEqual(last(alarm(0, 9), take(1), begin(4, 2), mark(9), take(1)), [3, 9, 0])


if __name__ == "__main__":
    unittest.main()
