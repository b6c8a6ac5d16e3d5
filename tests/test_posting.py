import unittest

from tests.asking import MOST, alarm, ask, begin, event, last, mark, move, take


class Event(unittest.TestCase):
    def test_to_which_worker(self):
        self.assertEqual(ask(event(0, 1), event(3, 1), move(3, 5), event(3, 1), event(7, 1)),
                         [[1], [2], [2], [5], [5]])

    def test_edges(self):
        self.assertEqual(ask(event(99, 1000), event(0, 0)), [[2], [1]])
        for key, v in [(100, 0), (0, 1001), (100, 1001), (MOST, 0), (0, MOST), (MOST, MOST)]:
            self.assertEqual(ask(event(key, v)), [[-1]], (key, v))

    def test_refused_is_not_posted(self):
        self.assertEqual(ask(event(100, 0), event(0, 1001), take(1), take(2)), [[-1], [-1], [-5], [-5]])

    def test_posted_last(self):
        calls = [event(0, 1), event(1, 2), alarm(4, 3), mark(4), event(5, 5)]
        self.assertEqual(ask(*calls, *[take(1)] * 6)[5:],
                         [[1, 0, 1, 1], [1, 1, 2, 1], [2, 4, 3, 0], [3, 4, 1], [1, 5, 5, 1], [-5]])


class Alarm(unittest.TestCase):
    def test_to_which_worker(self):
        self.assertEqual(ask(alarm(0, 1), alarm(3, 1), move(3, 5), alarm(3, 1), alarm(7, 1)),
                         [[1], [2], [2], [5], [5]])

    def test_edges(self):
        self.assertEqual(ask(alarm(99, 1000000), alarm(0, 0)), [[2], [1]])
        for key, time in [(100, 0), (0, 1000001), (100, 1000001), (MOST, 0), (0, MOST), (MOST, MOST)]:
            self.assertEqual(ask(alarm(key, time)), [[-1]], (key, time))

    def test_refused_is_not_posted(self):
        self.assertEqual(ask(alarm(100, 0), alarm(0, 1000001), take(1), take(2)), [[-1], [-1], [-5], [-5]])


class Mark(unittest.TestCase):
    def test_to_all_six(self):
        takes = [take(w) for w in range(1, 7)]
        for groups, n in [(4, 2), (1, 1), (12, 6)]:
            self.assertEqual(ask(begin(groups, n), mark(5), *takes, *takes)[2:], [[3, 5, 0]] * 6 + [[-5]] * 6)

    def test_not_below_the_last(self):
        self.assertEqual(ask(mark(5), mark(4), mark(5), mark(6), mark(5), mark(0)),
                         [[5], [-2], [5], [6], [-2], [-2]])

    def test_edges(self):
        self.assertEqual(ask(mark(0), mark(1000000), mark(1000000), mark(999999), mark(1000001), mark(MOST)),
                         [[0], [1000000], [1000000], [-2], [-3], [-3]])
        self.assertEqual(ask(mark(1000001)), [[-3]])
        self.assertEqual(ask(mark(MOST)), [[-3]])

    def test_refused_is_not_the_last(self):
        self.assertEqual(ask(mark(5), mark(1000001), mark(5)), [[5], [-3], [5]])
        self.assertEqual(ask(mark(5), mark(3), mark(4)), [[5], [-2], [-2]])

    def test_refused_is_not_posted(self):
        self.assertEqual(ask(mark(1000001), *[take(w) for w in range(1, 7)])[1:], [[-5]] * 6)
        self.assertEqual(ask(mark(5), mark(4), take(1), take(1))[2:], [[3, 5, 0], [-5]])

    def test_last_counts_by_posting_not_by_taking(self):
        self.assertEqual(last(mark(5), mark(4)), [-2])
        self.assertEqual(last(mark(5), take(1), take(2), mark(4)), [-2])


if __name__ == "__main__":
    unittest.main()
