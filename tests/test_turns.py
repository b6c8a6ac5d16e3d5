"""Rounds: each worker takes the first of its queue, then the first on its way arrives."""

import unittest

from tests.asking import (MOST, alarm, ask, begin, come, event, house_after, key, last, mark, move, picture, rescale,
                          said, take, trips, turns, worker)

ROUND = [*[take(w) for w in range(1, 7)], come(1)]
BUSY = [begin(6, 3), event(0, 5), alarm(1, 4), move(0, 2), event(6, 6), rescale(4), mark(9), move(5, 1), move(0, 6),
        event(0, 7), event(5, 8), rescale(2), mark(12), alarm(11, 30), event(3, 2), move(3, 5), event(9, 1)]


class Refused(unittest.TestCase):
    def test_edges(self):
        self.assertEqual(ask(turns(200), turns(201), turns(MOST), turns(0)), [[0], [-1], [-1], [0]])

    def test_all_is_as_it_was(self):
        before = picture(house_after(*BUSY))
        for n in [201, 202, MOST]:
            self.assertEqual(last(*BUSY, turns(n)), [-1], n)
            self.assertEqual(picture(house_after(*BUSY, turns(n))), before, n)


class Counted(unittest.TestCase):
    def test_no_rounds(self):
        self.assertEqual(last(*BUSY, turns(0)), [0])
        self.assertEqual(picture(house_after(*BUSY, turns(0))), picture(house_after(*BUSY)))

    def test_nothing_to_be_done(self):
        self.assertEqual(ask(turns(1), turns(200), said(0)), [[0], [0], [0]])

    def test_taken(self):
        self.assertEqual(ask(event(0, 1), turns(1), turns(1)), [[1], [1], [0]])
        self.assertEqual(ask(event(0, 1), event(0, 1), event(2, 1), turns(1), turns(1), turns(1))[3:], [[2], [1], [0]])

    def test_mark_is_taken_by_all_six(self):
        self.assertEqual(ask(mark(4), mark(5), turns(1), turns(1), turns(1))[2:], [[6], [6], [0]])
        self.assertEqual(ask(mark(4), mark(5), turns(2), turns(1))[2:], [[12], [0]])

    def test_arrived(self):
        calls = [begin(4, 1), move(0, 2), move(1, 2), *[take(1)] * 2, *[take(2)] * 2]
        self.assertEqual(ask(*calls, turns(1), trips(), turns(1), trips(), turns(1))[-5:],
                         [[1], [1, 1, 2], [1], [0], [0]])

    def test_taken_and_arrived(self):
        self.assertEqual(ask(move(0, 2), turns(1), trips(), worker(2)), [[1], [3], [0], [0, 3, 0, 2, 3, 0, 0]])

    def test_rounds_with_nothing_left_count_nothing(self):
        self.assertEqual(ask(mark(4), event(0, 1), turns(200), turns(200))[2:], [[7], [0]])

    def test_hundred_in_a_queue(self):
        calls = [*[event(0, 0)] * 97, turns(96), worker(1)]
        self.assertEqual(ask(*calls, turns(200))[-3:], [[96], [1, 2, 0, 1, 0, 0], [1]])


class InARound(unittest.TestCase):
    def test_workers_in_order(self):
        calls = [begin(12, 6), *[event(g, 0) for g in range(11, -1, -1)]]
        self.assertEqual(ask(*calls, turns(1), said(0), turns(1), said(6))[-4:], [
            [6], [6, 1, 1, 0, 1, 2, 3, 0, 1, 3, 5, 0, 1, 4, 7, 0, 1, 5, 9, 0, 1, 6, 11, 0, 1],
            [6], [6, 1, 0, 0, 1, 2, 2, 0, 1, 3, 4, 0, 1, 4, 6, 0, 1, 5, 8, 0, 1, 6, 10, 0, 1],
        ])

    def test_arrives_behind_all_takes(self):
        # Worker 6 awaits it before it arrives, though it had been on its way when the round began.
        calls = [move(0, 6), event(0, 3), take(1)]
        self.assertEqual(ask(*calls, turns(1), worker(6), turns(1), said(0))[-4:],
                         [[2], [1, 1, 0, 0, 0], [1], [1, 6, 0, 0, 4]])

    def test_leaves_and_arrives_within_a_round(self):
        self.assertEqual(ask(move(0, 6), turns(1), key(0)), [[1], [3], [0, 6, 6, 0, 0, 0]])
        self.assertEqual(ask(move(3, 1), turns(1), key(3)), [[2], [3], [3, 1, 1, 0, 0, 0]])

    def test_leaves_and_comes_early_within_a_round(self):
        self.assertEqual(ask(event(2, 1), move(0, 2), turns(1), worker(2), key(0), turns(1), worker(2))[2:],
                         [[3], [1, 2, 2, 3, 0, 1], [0, 2, 0, 0, 0, 0], [1], [0, 3, 0, 2, 3, 0, 0]])

    def test_one_arrives_in_a_round(self):
        # Groups 0 and 2 are on their way; in the round 4 leaves too, 8, 4, 2 and 0 are awaited, and 0 arrives.
        calls = [begin(12, 6), *[move(2 * w, 6 - w) for w in range(5)], take(1), take(2)]
        self.assertEqual(ask(*calls, trips(), turns(1), trips())[-3:], [[2, 0, 6, 2, 5], [6], [2, 2, 5, 4, 4]])

    def test_the_first_on_its_way_arrives(self):
        calls = [begin(4, 1), move(3, 2), move(1, 3), take(1), take(1)]
        self.assertEqual(ask(*calls, turns(1), trips(), turns(1), trips())[-4:], [[3], [1, 1, 3], [1], [0]])

    def test_one_that_leaves_at_its_arriving_waits_for_the_next_round(self):
        calls = [move(0, 2), move(0, 3), take(1), take(2), take(2), take(3)]
        self.assertEqual(ask(*calls, turns(1), trips(), turns(1), trips(), worker(3))[-5:],
                         [[1], [1, 0, 3], [1], [0], [0, 1, 0, 0, 0]])

    def test_as_takes_and_comes_by_hand(self):
        for rounds in range(12):
            by_hand = [*BUSY, *ROUND * rounds]
            self.assertEqual(picture(house_after(*BUSY, turns(rounds))), picture(house_after(*by_hand)), rounds)
            done = len([answer for answer in ask(*by_hand)[len(BUSY):] if answer != [-5]])
            self.assertEqual(last(*BUSY, turns(rounds)), [done], rounds)

    def test_round_by_round_is_the_same(self):
        for rounds in range(12):
            self.assertEqual(picture(house_after(*BUSY, *[turns(1)] * rounds)),
                             picture(house_after(*BUSY, turns(rounds))), rounds)


class InTheEnd(unittest.TestCase):
    def test_everybody_holds_what_is_his(self):
        answers = ask(*BUSY, turns(200), turns(200), trips(), *[worker(w) for w in range(1, 7)],
                      *[key(g) for g in range(6)])
        self.assertEqual(answers[-14:-12], [[0], [0]])
        for answer in answers[-12:-6]:
            self.assertEqual(answer[:1] + answer[-2:], [0, 0, 0])
        for answer in answers[-6:]:
            self.assertEqual(answer[1], answer[2])


if __name__ == "__main__":
    unittest.main()
