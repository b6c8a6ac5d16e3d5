"""A group on its way arrives."""

import unittest

from tests.asking import (MOST, alarm, ask, begin, come, event, house_after, key, last, mark, move, picture, said,
                          take, trips, worker)

# Four groups leave worker 1, for 2, 3, 4 and 5, in this order.
FOUR_LEAVE = [begin(4, 1), move(2, 2), move(0, 3), move(3, 4), move(1, 5), *[take(1)] * 4]


class Which(unittest.TestCase):
    def test_first(self):
        self.assertEqual(ask(*FOUR_LEAVE, come(1), trips())[-2:], [[2, 2, 0], [3, 0, 3, 3, 4, 1, 5]])

    def test_in_the_middle(self):
        self.assertEqual(ask(*FOUR_LEAVE, come(2), trips())[-2:], [[0, 3, 0], [3, 2, 2, 3, 4, 1, 5]])
        self.assertEqual(ask(*FOUR_LEAVE, come(3), trips())[-2:], [[3, 4, 0], [3, 2, 2, 0, 3, 1, 5]])

    def test_last(self):
        self.assertEqual(ask(*FOUR_LEAVE, come(4), trips())[-2:], [[1, 5, 0], [3, 2, 2, 0, 3, 3, 4]])

    def test_all_one_behind_another(self):
        self.assertEqual(ask(*FOUR_LEAVE, come(3), come(1), come(2), come(1), come(1), trips())[-6:],
                         [[3, 4, 0], [2, 2, 0], [1, 5, 0], [0, 3, 0], [-5], [0]])


class Refused(unittest.TestCase):
    def test_nobody_on_its_way(self):
        for k in [0, 1, 2, MOST]:
            self.assertEqual(ask(come(k)), [[-5]], k)
            self.assertEqual(ask(move(0, 2), come(k)), [[1], [-5]], k)

    def test_no_such_one(self):
        for k in [0, 5, 6, MOST]:
            self.assertEqual(last(*FOUR_LEAVE, come(k)), [-5], k)

    def test_edge_goes_with_how_many_are_on_their_way(self):
        self.assertEqual(ask(*FOUR_LEAVE, come(4), come(4), come(3))[-3:], [[1, 5, 0], [-5], [3, 4, 0]])

    def test_all_is_as_it_was(self):
        before = picture(house_after(*FOUR_LEAVE, take(2)))
        for k in [0, 5, MOST]:
            self.assertEqual(picture(house_after(*FOUR_LEAVE, take(2), come(k))), before, k)


class WaitedFor(unittest.TestCase):
    def test_nothing_waits(self):
        calls = [move(0, 3), take(1), take(3)]
        self.assertEqual(ask(*calls, come(1), key(0), worker(3), worker(1), trips())[3:],
                         [[0, 3, 0], [0, 3, 3, 0, 0, 0], [0, 1, 0, 0, 0], [0, 1, 1, 0, 0], [0]])

    def test_all_that_waits_is_done_in_order(self):
        calls = [move(0, 3), event(4, 2), alarm(0, 9), alarm(8, 5), event(0, 1), mark(9), event(4, 0),
                 alarm(0, 9), alarm(4, 10), take(1), *[take(3)] * 9]
        self.assertEqual(ask(*calls, worker(3), said(0), come(1), said(0), worker(3), key(0), key(4))[-7:], [
            [0, 0, 1, 0, 8, 0],
            [0],
            [0, 3, 6],
            [6, 3, 4, 0, 3, 3, 0, 0, 2, 3, 8, 1, 5, 3, 0, 1, 9, 3, 4, 0, 94, 3, 0, 1, 9],
            [0, 1, 0, 0, 0],
            [0, 3, 3, 1, 2, 0],
            [0, 3, 3, 2, 94, 1],
        ])

    def test_it_comes_with_its_state(self):
        calls = [event(0, 2), alarm(0, 5), alarm(0, 7), mark(3), move(0, 2), event(0, 1), mark(6), alarm(4, 4),
                 *[take(1)] * 5, *[take(2)] * 5]
        self.assertEqual(ask(*calls, said(0), come(1), said(1), key(0))[-4:],
                         [[1, 1, 0, 0, 3], [0, 2, 3], [3, 2, 0, 0, 95, 2, 0, 1, 5, 2, 4, 1, 4],
                          [0, 2, 2, 2, 95, 1]])

    def test_what_comes_later_is_done_at_once(self):
        calls = [move(0, 3), take(1), take(3), come(1), event(0, 6), alarm(0, 2), mark(4), alarm(4, 4)]
        self.assertEqual(ask(*calls, *[take(3)] * 4, worker(3))[8:],
                         [[1, 0, 6, 1], [2, 0, 2, 0], [3, 4, 1], [2, 4, 4, 1], [0, 1, 0, 0, 0]])

    def test_what_is_still_in_the_queue_stays_there(self):
        calls = [move(0, 3), event(0, 6), event(4, 7), take(1), take(3), take(3)]
        self.assertEqual(ask(*calls, come(1), worker(3), take(3))[-3:], [[0, 3, 1], [1, 1, 0, 0, 0], [1, 4, 7, 1]])

    def test_only_for_this_group(self):
        calls = [move(0, 3), move(1, 3), event(1, 6), event(0, 7), event(0, 8), take(1), take(1), *[take(3)] * 5]
        self.assertEqual(ask(*calls, worker(3), come(2), worker(3), come(1), worker(3))[-5:],
                         [[0, 0, 2, 0, 2, 1, 1, 0], [1, 3, 1], [0, 1, 1, 1, 0, 2, 0], [0, 3, 2], [0, 2, 0, 1, 0, 0]])

    def test_only_at_this_worker(self):
        calls = [begin(4, 1), move(0, 2), move(0, 3), event(0, 5), take(1), take(2), *[take(3)] * 2]
        self.assertEqual(ask(*calls, worker(2), worker(3), come(1), worker(2), worker(3), trips())[-6:], [
            [1, 0, 1, 0, 0, 0], [0, 0, 1, 0, 1, 0],
            [0, 2, 0], [1, 1, 0, 0, 0], [0, 0, 1, 0, 1, 0],
            [0],
        ])

    def test_same_mark_waits_for_two_groups(self):
        calls = [alarm(0, 4), alarm(1, 3), alarm(5, 2), move(0, 3), move(1, 3), mark(4), *[take(1)] * 5,
                 *[take(3)] * 3]
        self.assertEqual(ask(*calls, worker(3), come(1), come(1), said(0))[-4:],
                         [[0, 0, 2, 0, 1, 1, 1, 0], [0, 3, 1], [1, 3, 2], [3, 3, 0, 1, 4, 3, 5, 1, 2, 3, 1, 1, 3]])


class LeavesAtItsArriving(unittest.TestCase):
    # Group 0 goes from 1 to 2 and on to 3, with a mark and events about it; 1 and 2 have taken all.
    ONWARD = [event(4, 1), alarm(0, 50), move(0, 2), event(4, 2), mark(50), move(0, 3), mark(60), event(0, 9),
              *[take(1)] * 5, *[take(2)] * 5]

    def test_done_up_to_the_leaving(self):
        self.assertEqual(ask(*self.ONWARD, worker(2), come(1), said(1), worker(2), key(4), key(0), trips())[-7:], [
            [0, 2, 2, 3, 1, 0, 4, 0],
            [0, 2, 2],
            [2, 2, 4, 0, 65, 2, 0, 1, 50],
            [0, 2, 2, 3, 0, 0],
            [0, 3, 0, 2, 65, 0],
            [0, 3, 0, 0, 0, 0],
            [1, 0, 3],
        ])

    def test_mark_behind_the_leaving_is_not_heard_there(self):
        house = house_after(*self.ONWARD, come(1))
        self.assertEqual(house.groups[0].heard, 50)
        self.assertEqual(house_after(*self.ONWARD, come(1), *[take(3)] * 4, come(1)).groups[0].heard, 60)

    def test_goes_on_to_the_next(self):
        calls = [*self.ONWARD, come(1), *[take(3)] * 4, come(1), said(3), worker(3)]
        self.assertEqual(ask(*calls)[-3:], [[0, 3, 1], [1, 3, 0, 0, 10], [0, 1, 0, 0, 0]])

    def test_leaves_behind_all_that_are_on_their_way(self):
        calls = [begin(4, 1), move(0, 2), move(1, 3), move(2, 4), move(1, 5), *[take(1)] * 3,
                 take(2), take(3), take(3), take(4)]
        self.assertEqual(ask(*calls, trips(), come(2), trips(), come(1), trips())[-5:],
                         [[3, 0, 2, 1, 3, 2, 4], [1, 3, 0], [3, 0, 2, 2, 4, 1, 5], [0, 2, 0], [2, 2, 4, 1, 5]])

    def test_the_one_alone_on_its_way_leaves_again(self):
        calls = [move(0, 2), move(0, 3), take(1), take(2), take(2)]
        self.assertEqual(ask(*calls, come(1), trips(), come(1), trips(), worker(3))[-5:],
                         [[0, 2, 0], [1, 0, 3], [0, 3, 0], [0], [1, 0, 0, 1]])

    def test_not_waited_for_then_hears_no_mark_there(self):
        calls = [move(0, 3), alarm(0, 5), move(0, 4), take(1), *[take(3)] * 3, come(1), mark(7), take(3)]
        self.assertEqual(ask(*calls, worker(3), key(0))[-3:], [[3, 7, 0], [0, 0, 0, 0], [0, 4, 0, 0, 0, 1]])

    def test_awaited_later_it_is_waited_for_from_then_on(self):
        calls = [move(0, 3), move(0, 4), take(1), take(3), take(3), come(1), move(0, 3), event(0, 8),
                 take(3), take(3)]
        self.assertEqual(ask(*calls, worker(3), trips())[-2:], [[0, 0, 1, 0, 1, 0], [1, 0, 4]])


class Again(unittest.TestCase):
    # Group 0 goes from 1 to 2, to 3, and to 2 again; 1 and 2 have taken all.
    ONCE = [move(0, 2), event(0, 1), move(0, 3), event(0, 2), mark(7), move(0, 2), event(0, 3), alarm(4, 7), mark(8),
            take(1), take(1), take(1), *[take(2)] * 8]

    def test_waits_anew_with_what_stands_behind(self):
        self.assertEqual(ask(*self.ONCE, worker(2), come(1), worker(2), trips(), said(0))[-5:],
                         [[0, 2, 2, 3, 1, 0, 7, 0], [0, 2, 1], [0, 2, 2, 3, 1, 0, 3, 0], [1, 0, 3],
                          [1, 2, 0, 0, 2]])

    def test_back_it_does_what_stood_behind(self):
        calls = [*self.ONCE, come(1), *[take(3)] * 4, come(1), come(1)]
        self.assertEqual(ask(*calls, said(0), worker(2), key(0))[-5:], [
            [0, 3, 1], [0, 2, 2],
            [4, 2, 0, 0, 2, 3, 0, 0, 65, 2, 0, 0, 2019, 2, 4, 1, 7],
            [0, 3, 0, 2, 3, 0, 0],
            [0, 2, 2, 3, 2019, 0],
        ])

    def test_nothing_behind_the_again(self):
        calls = [move(0, 2), move(0, 3), mark(7), move(0, 2), take(1), *[take(2)] * 4]
        self.assertEqual(ask(*calls, worker(2), come(1), worker(2))[-3:],
                         [[0, 2, 2, 3, 1, 0, 3, 0], [0, 2, 0], [0, 2, 2, 3, 1, 0, 0, 0]])

    def test_several(self):
        there_and_back = [move(0, 3), mark(5), move(0, 2), event(0, 1)]
        calls = [move(0, 2), *there_and_back * 3, take(1), *[take(2)] * 13, *[take(3)] * 9]
        self.assertEqual(last(*calls, worker(2)), [0, 2, 2, 3, 1, 0, 12, 0])
        self.assertEqual(ask(*calls, come(1), worker(2), trips())[-3:],
                         [[0, 2, 0], [0, 2, 2, 3, 1, 0, 9, 0], [1, 0, 3]])
        self.assertEqual(ask(*calls, *[come(1)] * 3, worker(2), trips())[-4:],
                         [[0, 3, 0], [0, 2, 1], [0, 2, 2, 3, 1, 0, 5, 0], [1, 0, 3]])
        self.assertEqual(ask(*calls, *[come(1)] * 5, worker(2), trips())[-4:],
                         [[0, 3, 0], [0, 2, 1], [0, 2, 2, 3, 1, 0, 1, 0], [1, 0, 3]])
        self.assertEqual(ask(*calls, *[come(1)] * 7, worker(2), trips())[-4:],
                         [[0, 3, 0], [0, 2, 1], [0, 3, 0, 2, 3, 0, 0], [0]])

    def test_last_among_those_waited_for(self):
        calls = [begin(4, 1), move(0, 2), move(1, 2), move(2, 2), move(0, 3), move(0, 2), event(0, 4), take(1),
                 *[take(2)] * 6]
        self.assertEqual(ask(*calls, worker(2), come(1), worker(2))[-3:],
                         [[0, 0, 3, 0, 3, 1, 0, 2, 0, 0], [0, 2, 0], [0, 0, 3, 1, 0, 2, 0, 0, 1, 0]])

    def test_again_that_is_still_in_the_queue(self):
        calls = [move(0, 2), move(0, 3), move(0, 2), event(0, 4), take(1), take(2), take(2)]
        self.assertEqual(ask(*calls, come(1), worker(2), take(2), worker(2), take(2), worker(2))[-6:],
                         [[0, 2, 0], [2, 2, 2, 3, 0, 0], [5, 0, 0], [1, 2, 2, 3, 1, 0, 0, 0], [1, 0, 4, 0],
                          [0, 2, 2, 3, 1, 0, 1, 0]])

    def test_mark_ahead_of_the_again_is_gone(self):
        house = house_after(*self.ONCE, come(1))
        self.assertEqual(house.staff[1].waiting, {0: [(1, 0, 3), (2, 4, 7), (3, 8)]})
        self.assertEqual(house.groups[0].heard, 0)


class CameEarly(unittest.TestCase):
    EARLY = [alarm(0, 5), take(1), mark(4), move(0, 2), mark(6), event(0, 3), take(1), take(1), come(1)]

    def test_nobody_holds_it(self):
        self.assertEqual(ask(*self.EARLY, key(0), worker(2), worker(1), trips())[-5:],
                         [[0, 2, 0], [0, 2, 0, 0, 0, 1], [4, 2, 2, 3, 0, 1], [1, 1, 1, 0, 0], [0]])

    def test_hears_no_mark(self):
        self.assertEqual(ask(*self.EARLY, take(2), key(0), worker(2), said(0))[-4:],
                         [[3, 4, 0], [0, 2, 0, 0, 0, 1], [3, 2, 2, 3, 0, 1], [0]])
        self.assertEqual(house_after(*self.EARLY, take(2)).groups[0].heard, 4)

    def test_hears_a_mark_posted_behind_its_move_when_it_is_held(self):
        calls = [alarm(0, 5), move(0, 6), take(1), take(1), come(1), mark(9)]
        self.assertEqual(ask(*calls, key(0), worker(6), take(6), key(0), take(6), key(0), said(0))[-7:],
                         [[0, 6, 0, 0, 0, 1], [2, 0, 0, 1], [5, 0, 0], [0, 6, 6, 0, 0, 1], [3, 9, 1],
                          [0, 6, 6, 0, 0, 0], [1, 6, 0, 1, 5]])

    def test_held_when_it_is_awaited(self):
        self.assertEqual(ask(*self.EARLY, take(2), take(2), key(0), worker(2), take(2), take(2), said(0))[-6:],
                         [[5, 0, 0], [0, 2, 2, 0, 0, 1], [2, 3, 0, 2, 3, 0, 0], [3, 6, 1], [1, 0, 3, 1],
                          [2, 2, 0, 1, 5, 2, 0, 0, 4]])

    def test_how_many(self):
        calls = [begin(4, 1), move(0, 2), move(1, 2), move(2, 3), *[take(1)] * 3, come(1), come(1), come(1)]
        self.assertEqual(ask(*calls, worker(1), worker(2), worker(3), take(2), worker(2))[-5:],
                         [[0, 1, 3, 0, 0], [2, 0, 0, 2], [1, 0, 0, 1], [5, 0, 0], [1, 1, 0, 0, 1]])

    def test_while_another_is_waited_for(self):
        calls = [begin(4, 1), move(0, 2), move(1, 2), take(1), take(1), take(2), come(2)]
        self.assertEqual(ask(*calls, worker(2), come(1), worker(2), take(2), worker(2))[-5:],
                         [[1, 0, 1, 0, 0, 1], [0, 2, 0], [1, 1, 0, 0, 1], [5, 1, 0], [0, 2, 0, 1, 0, 0]])

    def test_leaves_when_it_has_been_awaited(self):
        calls = [move(0, 2), event(0, 2), move(0, 3), take(1), come(1)]
        self.assertEqual(ask(*calls, *[take(2)] * 3, trips(), worker(2))[-5:],
                         [[5, 0, 0], [1, 0, 2, 1], [4, 0, 3, 0], [1, 0, 3], [0, 2, 2, 3, 0, 0]])

    def test_early_twice_at_one_worker(self):
        calls = [move(0, 2), move(0, 1), move(0, 2), take(1), come(1), take(2), take(2), come(1)]
        self.assertEqual(ask(*calls, worker(1), take(1), take(1), come(1), worker(2), take(2), worker(2))[-7:],
                         [[2, 1, 1, 0, 1], [5, 0, 0], [4, 0, 2, 0], [0, 2, 0], [1, 2, 2, 3, 0, 1], [5, 0, 0],
                          [0, 3, 0, 2, 3, 0, 0]])


class LongWays(unittest.TestCase):
    def test_moved_on_before_it_has_ever_arrived(self):
        calls = [event(0, 1), move(0, 2), event(0, 2), move(0, 3), event(0, 3), *[take(3)] * 2, *[take(2)] * 3,
                 take(1), take(1)]
        self.assertEqual(ask(*calls, trips(), come(1), trips(), come(1), trips(), said(0), key(0))[-7:],
                         [[1, 0, 2], [0, 2, 1], [1, 0, 3], [0, 3, 1], [0],
                          [3, 1, 0, 0, 2, 2, 0, 0, 65, 3, 0, 0, 2019], [0, 3, 3, 3, 2019, 0]])

    def test_back_to_a_worker_that_it_left(self):
        calls = [event(0, 1), move(0, 2), event(0, 2), move(0, 1), event(0, 3), *[take(1)] * 4, *[take(2)] * 3]
        self.assertEqual(ask(*calls, worker(1), come(1), worker(2), trips(), come(1), worker(1), said(0))[-7:],
                         [[0, 1, 1, 1, 0, 1, 0], [0, 2, 1], [0, 2, 2, 3, 0, 0], [1, 0, 1], [0, 1, 1],
                          [0, 2, 0, 1, 0, 0], [3, 1, 0, 0, 2, 2, 0, 0, 65, 1, 0, 0, 2019]])

    # Group 0 twice round the ring 1, 2, 3, 4, 5, 6 with an event at each, and then to 1.
    RING = [step for w in [2, 3, 4, 5, 6, 1] * 2 for step in (event(0, w), move(0, w))] + [event(0, 7)]
    SPOKEN_BY = [1, 2, 3, 4, 5, 6, 1, 2, 3, 4, 5, 6, 1]

    def check_ring(self, calls):
        answer = last(*self.RING, *calls, said(0))
        alone = last(*[step for step in self.RING if step[0] == 1], *[take(1)] * 13, said(0))
        self.assertEqual(answer[0], 13)
        self.assertEqual([answer[at:at + 3] for at in range(2, 54, 4)], [alone[at:at + 3] for at in range(2, 54, 4)])
        self.assertEqual(answer[1::4], self.SPOKEN_BY)

    def test_ring_with_all_taken_first(self):
        takes = [take(w) for w in range(1, 7) for step in range(7)]
        self.check_ring(takes + [come(1)] * 12)

    def test_ring_with_all_taken_first_backwards(self):
        takes = [take(w) for w in range(6, 0, -1) for step in range(7)]
        self.check_ring(takes + [come(1)] * 12)

    def test_ring_step_by_step(self):
        # Each arrives before anybody awaits it.
        steps = [take(1), take(1)]
        for w in [2, 3, 4, 5, 6, 1] * 2:
            steps += [come(1), take(w), take(w), take(w)]
        self.check_ring(steps)


if __name__ == "__main__":
    unittest.main()
