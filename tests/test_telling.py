"""The calls that only tell: said, key, worker and trips."""

import unittest

from tests.asking import (MOST, alarm, ask, begin, come, event, house_after, key, last, mark, move, picture, said,
                          take, trips, turns, worker)


class Said(unittest.TestCase):
    # Five are said: by worker 1 an event, by 2 an event and an alarm, by 1 an alarm and an event.
    FIVE = [event(0, 1), event(2, 2), alarm(6, 3), alarm(1, 4), take(1), take(2), take(2), take(1), mark(4),
            take(2), take(1), event(0, 5), take(1)]
    FIRST = [1, 0, 0, 2]
    SECOND = [2, 2, 0, 3]
    THIRD = [2, 6, 1, 3]
    FOURTH = [1, 1, 1, 4]
    FIFTH = [1, 0, 0, 68]

    def test_all(self):
        self.assertEqual(last(*self.FIVE, said(0)),
                         [5] + self.FIRST + self.SECOND + self.THIRD + self.FOURTH + self.FIFTH)

    def test_fewer_than_were_said(self):
        self.assertEqual(last(*self.FIVE, said(1)), [4] + self.SECOND + self.THIRD + self.FOURTH + self.FIFTH)
        self.assertEqual(last(*self.FIVE, said(3)), [2] + self.FOURTH + self.FIFTH)
        self.assertEqual(last(*self.FIVE, said(4)), [1] + self.FIFTH)

    def test_as_many_and_more(self):
        for n in [5, 6, 1000001, MOST]:
            self.assertEqual(last(*self.FIVE, said(n)), [0], n)

    def test_nothing_said(self):
        for n in [0, 1, MOST]:
            self.assertEqual(ask(said(n)), [[0]], n)
        self.assertEqual(ask(event(0, 1), alarm(0, 0), said(0))[2:], [[0]])

    def test_by_an_arriving(self):
        calls = [move(0, 2), event(0, 1), alarm(0, 0), take(1), *[take(2)] * 3]
        self.assertEqual(ask(*calls, said(0), come(1), said(0))[-3:], [[0], [0, 2, 2], [2, 2, 0, 0, 2, 2, 0, 1, 0]])

    def test_several_by_one_mark(self):
        calls = [alarm(5, 3), alarm(1, 3), alarm(4, 2), alarm(0, 3), mark(3), *[take(1)] * 5]
        self.assertEqual(last(*calls, said(0)), [4, 1, 4, 1, 2, 1, 0, 1, 3, 1, 1, 1, 3, 1, 5, 1, 3])

    def test_twice_the_same(self):
        self.assertEqual(ask(*self.FIVE, said(2), said(2), said(0))[-3:-1],
                         [[3] + self.THIRD + self.FOURTH + self.FIFTH] * 2)


class Key(unittest.TestCase):
    def test_new(self):
        self.assertEqual(ask(*[key(k) for k in (0, 1, 2, 3, 4, 7, 98, 99)]),
                         [[0, 1, 1, 0, 0, 0], [1, 1, 1, 0, 0, 0], [2, 2, 2, 0, 0, 0], [3, 2, 2, 0, 0, 0],
                          [0, 1, 1, 0, 0, 0], [3, 2, 2, 0, 0, 0], [2, 2, 2, 0, 0, 0], [3, 2, 2, 0, 0, 0]])

    def test_edges(self):
        self.assertEqual(ask(key(99), key(100), key(101), key(MOST), key(0)),
                         [[3, 2, 2, 0, 0, 0], [-1], [-1], [-1], [0, 1, 1, 0, 0, 0]])
        self.assertEqual(ask(begin(1, 1), key(99), key(100)), [[0], [0, 1, 1, 0, 0, 0], [-1]])
        self.assertEqual(ask(begin(12, 6), key(99), key(11), key(12)),
                         [[0], [3, 2, 2, 0, 0, 0], [11, 6, 6, 0, 0, 0], [0, 1, 1, 0, 0, 0]])

    # Keys 1, 5 and 9 share group 1: 1 has events and alarms, 5 alarms alone, 9 nothing.
    SHARED = [event(1, 7), event(1, 0), alarm(1, 50), alarm(1, 60), alarm(1, 50), alarm(5, 70)]
    OF_1 = [2, 249, 3]
    OF_5 = [0, 0, 1]
    OF_9 = [0, 0, 0]

    def test_posted_does_not_count(self):
        self.assertEqual(last(*self.SHARED, key(1)), [1, 1, 1, 0, 0, 0])
        self.assertEqual(last(*self.SHARED, take(1), key(1)), [1, 1, 1, 1, 8, 0])

    def test_held(self):
        calls = [*self.SHARED, *[take(1)] * 6, key(1), key(5), key(9)]
        self.assertEqual(ask(*calls)[-3:], [[1, 1, 1] + self.OF_1, [1, 1, 1] + self.OF_5, [1, 1, 1] + self.OF_9])

    def test_on_its_way(self):
        calls = [*self.SHARED, move(1, 4), *[take(1)] * 6, key(1), take(1), key(1), key(5), key(9)]
        self.assertEqual(ask(*calls)[-5:], [[1, 4, 1] + self.OF_1, [4, 1, 4, 0], [1, 4, 0] + self.OF_1,
                                            [1, 4, 0] + self.OF_5, [1, 4, 0] + self.OF_9])

    def test_early(self):
        calls = [*self.SHARED, move(1, 4), *[take(1)] * 7, come(1), key(1), key(5), key(9)]
        self.assertEqual(ask(*calls)[-4:],
                         [[1, 4, 0], [1, 4, 0] + self.OF_1, [1, 4, 0] + self.OF_5, [1, 4, 0] + self.OF_9])

    def test_arrived(self):
        calls = [*self.SHARED, move(1, 4), *[take(1)] * 7, take(4), come(1), key(1), key(5), key(9)]
        self.assertEqual(ask(*calls)[-3:], [[1, 4, 4] + self.OF_1, [1, 4, 4] + self.OF_5, [1, 4, 4] + self.OF_9])

    def test_what_waits_does_not_count(self):
        calls = [move(1, 4), event(1, 7), alarm(1, 5), take(1), *[take(4)] * 3]
        self.assertEqual(ask(*calls, key(1), come(1), key(1))[-3:],
                         [[1, 4, 0, 0, 0, 0], [1, 4, 1], [1, 4, 4, 1, 8, 1]])

    def test_alarm_that_was_said_is_gone(self):
        calls = [*self.SHARED, mark(50), *[take(1)] * 7, key(1), key(5), alarm(1, 50), take(1), key(1)]
        self.assertEqual(ask(*calls)[-5:],
                         [[1, 1, 1, 2, 249, 1], [1, 1, 1, 0, 0, 1], [1], [2, 1, 50, 1], [1, 1, 1, 2, 249, 1]])

    def test_events_and_memory_are_told_apart(self):
        # 2113 times 31, and 17, and 1 would be 65521: a memory of 0 that had events.
        house = house_after(event(1, 0), take(1))
        house.groups[1].memories[1] = 2113
        house.event(1, 17)
        house.take(1)
        self.assertEqual(house.key(1), [1, 1, 1, 2, 0, 0])


class OfWorker(unittest.TestCase):
    def test_new(self):
        self.assertEqual(ask(*[worker(w) for w in range(1, 7)]),
                         [[0, 2, 0, 1, 0, 0], [0, 2, 2, 3, 0, 0]] + [[0, 0, 0, 0]] * 4)
        self.assertEqual(ask(begin(12, 1), worker(1)), [[0], [0, 12] + list(range(12)) + [0, 0]])
        self.assertEqual(ask(begin(12, 6), worker(6)), [[0], [0, 2, 10, 11, 0, 0]])

    def test_edges(self):
        self.assertEqual(ask(worker(0), worker(1), worker(6), worker(7), worker(MOST)),
                         [[-1], [0, 2, 0, 1, 0, 0], [0, 0, 0, 0], [-1], [-1]])

    def test_queue(self):
        calls = [event(0, 1), alarm(0, 1), mark(2), move(0, 2), event(0, 1)]
        self.assertEqual(ask(*calls, worker(1), worker(2), worker(3), take(1), take(2), worker(1), worker(2))[5:],
                         [[4, 2, 0, 1, 0, 0], [3, 2, 2, 3, 0, 0], [1, 0, 0, 0], [1, 0, 1, 1], [3, 2, 0],
                          [3, 2, 0, 1, 0, 0], [2, 2, 2, 3, 0, 0]])

    def test_groups_in_order_however_they_came(self):
        calls = [begin(12, 6), move(10, 2), move(5, 2), move(0, 2), turns(10)]
        self.assertEqual(ask(*calls, worker(2), worker(1), worker(6))[-3:],
                         [[0, 5, 0, 2, 3, 5, 10, 0, 0], [0, 1, 1, 0, 0], [0, 1, 11, 0, 0]])

    def test_waited_for_longest_first(self):
        calls = [begin(12, 6), move(10, 2), move(0, 2), move(5, 2), *[take(2)] * 3]
        self.assertEqual(last(*calls, worker(2)), [0, 2, 2, 3, 3, 10, 0, 0, 0, 5, 0, 0])
        self.assertEqual(last(*calls, take(6), come(1), worker(2)), [0, 3, 2, 3, 10, 2, 0, 0, 5, 0, 0])

    def test_how_many_wait(self):
        calls = [move(0, 3), event(0, 1), move(2, 3), mark(4), alarm(2, 9), move(0, 4), event(2, 1), move(0, 3),
                 event(0, 2), *[take(3)] * 9]
        self.assertEqual(last(*calls, worker(3)), [0, 0, 2, 0, 5, 2, 3, 0])

    def test_waiting_anew_counts_from_then(self):
        calls = [begin(4, 1), move(1, 3), move(0, 3), move(1, 4), move(1, 3), *[take(3)] * 4, take(1)]
        self.assertEqual(ask(*calls, worker(3), come(1), worker(3))[-3:],
                         [[0, 0, 2, 1, 2, 0, 0, 0], [1, 3, 0], [0, 0, 2, 0, 0, 1, 0, 0]])

    def test_again_does_not_count_from_then(self):
        calls = [begin(4, 1), move(1, 3), move(0, 3), move(1, 4), move(1, 3), *[take(3)] * 3]
        self.assertEqual(ask(*calls, worker(3), take(3), worker(3))[-3:],
                         [[1, 0, 2, 1, 1, 0, 0, 0], [5, 1, 0], [0, 0, 2, 1, 2, 0, 0, 0]])

    def test_early(self):
        calls = [begin(4, 1), move(3, 5), move(1, 5), move(0, 5), *[take(1)] * 3, take(5), come(3), come(2), come(1)]
        self.assertEqual(ask(*calls, worker(5), take(5), worker(5), take(5), worker(5))[-5:],
                         [[2, 1, 3, 0, 2], [5, 1, 0], [1, 2, 1, 3, 0, 1], [5, 0, 0], [0, 3, 0, 1, 3, 0, 0]])

    def test_all_at_once(self):
        # Worker 2 holds 2 and 3, waits for 1 with an event and a mark, and 0 came early; a mark is in its queue.
        calls = [move(1, 2), event(1, 5), mark(3), move(0, 2), mark(4), *[take(1)] * 3, come(2), *[take(2)] * 3]
        self.assertEqual(last(*calls, worker(2)), [2, 2, 2, 3, 1, 1, 2, 1])


class Trips(unittest.TestCase):
    def test_none(self):
        self.assertEqual(ask(trips()), [[0]])
        self.assertEqual(ask(move(0, 2), trips()), [[1], [0]])

    def test_the_one_that_left_first_first(self):
        calls = [move(3, 1), move(0, 6), move(1, 5), take(1), take(1), take(2), take(1)]
        self.assertEqual(last(*calls, trips()), [3, 0, 6, 3, 1, 1, 5])

    def test_where_it_goes_not_whose_it_is(self):
        self.assertEqual(last(move(0, 6), move(0, 5), take(1), trips()), [1, 0, 6])

    def test_arrived_is_not_on_its_way(self):
        self.assertEqual(ask(move(0, 6), move(1, 6), take(1), take(1), come(1), trips(), come(1), trips())[-3:],
                         [[1, 1, 6], [1, 6, 0], [0]])

    def test_all_twelve(self):
        calls = [begin(12, 1), *[move(g, 2) for g in range(11, -1, -1)], *[take(1)] * 12]
        self.assertEqual(last(*calls, trips()), [12] + [number for g in range(11, -1, -1) for number in (g, 2)])


class ChangesNothing(unittest.TestCase):
    TELLING = [said(0), said(1), said(MOST), key(0), key(5), key(99), key(100), key(MOST), worker(0), worker(1),
               worker(2), worker(6), worker(7), worker(MOST), trips()]
    BUSY = [event(0, 5), alarm(1, 4), move(0, 2), take(1), take(2), move(2, 1), event(4, 6), mark(9), take(2), take(1),
            take(2), move(0, 3), take(1), take(1), take(1), come(1), event(0, 3), take(2), turns(1)]

    def test_all_is_as_it_was(self):
        for at in range(len(self.BUSY) + 1):
            before = picture(house_after(*self.BUSY[:at]))
            for call in self.TELLING:
                self.assertEqual(picture(house_after(*self.BUSY[:at], call)), before, (at, call))


if __name__ == "__main__":
    unittest.main()
