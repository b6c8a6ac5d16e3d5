import itertools
import unittest

from movedkeys.shares import owners_with, shares_with
from tests.asking import MOST, ask, begin, event, house_after, last, move, rescale, take


class Move(unittest.TestCase):
    def test_to_another(self):
        self.assertEqual(ask(move(0, 3), take(1), take(3), event(0, 1), event(1, 1)),
                         [[1], [4, 0, 3, 0], [5, 0, 0], [3], [1]])

    def test_to_whose_it_is(self):
        self.assertEqual(ask(move(0, 1), take(1), event(0, 1), take(1)), [[1], [-5], [1], [1, 0, 1, 1]])
        self.assertEqual(ask(move(0, 3), move(0, 3), take(3), take(3), take(1), take(1)),
                         [[1], [3], [5, 0, 0], [-5], [4, 0, 3, 0], [-5]])

    def test_on_and_back(self):
        self.assertEqual(ask(move(0, 3), move(0, 4), move(0, 1)), [[1], [3], [4]])
        takes = [take(1), take(1), take(3), take(3), take(4), take(4)]
        self.assertEqual(ask(move(0, 3), move(0, 4), move(0, 1), *takes)[3:],
                         [[4, 0, 3, 0], [5, 0, 0], [5, 0, 0], [4, 0, 4, 0], [5, 0, 0], [4, 0, 1, 0]])

    def test_posted_last(self):
        self.assertEqual(ask(event(0, 1), event(2, 1), move(0, 2), event(4, 2), take(1), take(1), take(1))[4:],
                         [[1, 0, 1, 1], [4, 0, 2, 0], [-5]])
        self.assertEqual(ask(event(0, 1), event(2, 1), move(0, 2), event(4, 2), take(2), take(2), take(2))[4:],
                         [[1, 2, 1, 1], [5, 0, 0], [1, 4, 2, 0]])

    def test_edges(self):
        self.assertEqual(ask(move(3, 6), move(0, 6), move(0, 1)), [[2], [1], [6]])
        for g, w in [(4, 1), (0, 0), (0, 7), (4, 0), (MOST, 1), (0, MOST), (MOST, MOST)]:
            self.assertEqual(ask(move(g, w), take(1), take(2)), [[-1], [-5], [-5]], (g, w))

    def test_edge_goes_with_the_groups(self):
        self.assertEqual(ask(begin(12, 6), move(11, 1), move(12, 1)), [[0], [6], [-1]])
        self.assertEqual(ask(begin(1, 1), move(0, 2), move(1, 2)), [[0], [1], [-1]])


class Rescale(unittest.TestCase):
    def test_up(self):
        self.assertEqual(last(begin(12, 1), rescale(5)),
                         [9, 3, 2, 4, 2, 5, 2, 6, 3, 7, 3, 8, 4, 9, 4, 10, 5, 11, 5])
        self.assertEqual(last(begin(12, 2), rescale(3)), [4, 4, 3, 5, 3, 10, 3, 11, 3])

    def test_down(self):
        self.assertEqual(last(begin(6, 3), rescale(2)), [2, 4, 1, 5, 2])
        self.assertEqual(last(begin(12, 6), rescale(1)),
                         [10, 2, 1, 3, 1, 4, 1, 5, 1, 6, 1, 7, 1, 8, 1, 9, 1, 10, 1, 11, 1])

    def test_to_the_same(self):
        for groups in range(1, 13):
            for n in range(1, min(groups, 6) + 1):
                self.assertEqual(ask(begin(groups, n), rescale(n), rescale(n)), [[0], [0], [0]], (groups, n))

    def test_twice(self):
        self.assertEqual(ask(rescale(3), rescale(3)), [[1, 3, 3], [0]])

    def test_more_workers_than_groups(self):
        self.assertEqual(last(begin(2, 1), rescale(6)), [1, 1, 2])
        self.assertEqual(last(begin(3, 6), rescale(6)), [0])
        self.assertEqual(last(begin(3, 6), rescale(2)), [2, 1, 1, 2, 2])
        self.assertEqual(last(begin(1, 6), move(0, 6), rescale(5)), [1, 0, 1])

    def test_moved_by_hand_before(self):
        self.assertEqual(last(move(0, 6), move(1, 6), rescale(2)), [2, 0, 1, 1, 1])
        self.assertEqual(last(move(1, 2), rescale(2)), [1, 3, 1])
        self.assertEqual(last(move(0, 2), move(2, 1), rescale(2)), [0])

    def test_one_more_for_who_has_most(self):
        self.assertEqual(last(begin(5, 2), move(0, 2), move(1, 2), rescale(2)), [1, 4, 1])

    def test_one_more_for_the_lesser_number_of_as_many(self):
        away = [move(g, 3) for g in range(5)]
        self.assertEqual(last(begin(5, 1), *away, rescale(2)), [5, 0, 1, 1, 1, 2, 1, 3, 2, 4, 2])

    def test_one_more_not_for_a_worker_above_n(self):
        away = [move(g, 5) for g in range(3)]
        self.assertEqual(last(begin(5, 2), *away, rescale(2)), [3, 0, 1, 1, 1, 2, 2])

    def test_first_ones_stay(self):
        self.assertEqual(last(begin(4, 1), move(1, 2), rescale(2)), [1, 3, 2])

    def test_posts_as_moves_do(self):
        calls = [begin(4, 1), rescale(2)]
        self.assertEqual(ask(*calls, take(1), take(1), take(1), take(2), take(2), take(2)),
                         [[0], [2, 2, 2, 3, 2], [4, 2, 2, 0], [4, 3, 2, 0], [-5], [5, 2, 0], [5, 3, 0], [-5]])
        self.assertEqual(ask(*calls, *[event(g, 0) for g in range(4)])[2:], [[1], [1], [2], [2]])

    def test_edges(self):
        self.assertEqual(ask(rescale(1)), [[2, 2, 1, 3, 1]])
        self.assertEqual(ask(rescale(6)), [[2, 1, 3, 3, 4]])
        for n in [0, 7, MOST]:
            self.assertEqual(ask(rescale(n), event(0, 0), event(3, 0)), [[-1], [1], [2]], n)

    def test_queues_of_a_refusal_are_empty(self):
        self.assertEqual(ask(rescale(0), rescale(7), *[take(w) for w in range(1, 7)])[2:], [[-5]] * 6)

    def test_does_not_stand_still_for_what_is_under_way(self):
        house = house_after(move(0, 2), rescale(2))
        self.assertEqual(house.owners, [2, 1, 2, 1])
        self.assertEqual(house.holders, [1, 1, 2, 2])


class Shares(unittest.TestCase):
    def test_every_share_is_met_and_as_few_are_moved_as_can_be(self):
        for owners in itertools.product(range(1, 5), repeat=5):
            for n in range(1, 5):
                self.check(list(owners), n)

    def check(self, owners, n):
        before = list(owners)
        targets = owners_with(owners, n)
        self.assertEqual(owners, before)
        counts = [targets.count(w) for w in range(1, n + 1)]
        self.assertEqual(sum(counts), len(owners))
        self.assertLessEqual(max(counts) - min(counts), 1)
        stay = sum(1 for w, target in zip(owners, targets) if w == target)
        self.assertEqual(stay, self.most_that_can_stay(owners, n))

    def most_that_can_stay(self, owners, n):
        share, left_over = divmod(len(owners), n)
        return max(
            sum(min(owners.count(w), share + (1 if w in more else 0)) for w in range(1, n + 1))
            for more in itertools.combinations(range(1, n + 1), left_over)
        )

    def test_shares(self):
        self.assertEqual(shares_with([1, 2, 2, 3, 3], 3), {1: 1, 2: 2, 3: 2})
        self.assertEqual(shares_with([4, 4, 4, 4, 3], 3), {1: 2, 2: 1, 3: 2})
        self.assertEqual(shares_with([6], 6), {1: 0, 2: 0, 3: 0, 4: 0, 5: 0, 6: 1})


if __name__ == "__main__":
    unittest.main()
