import unittest

from tests.asking import MOST, alarm, ask, begin, come, event, house_after, last, mark, move, rescale, take


class Refused(unittest.TestCase):
    def test_no_such_worker(self):
        for w in [0, 7, MOST]:
            self.assertEqual(ask(take(w)), [[-1]], w)
            self.assertEqual(ask(mark(1), take(w)), [[1], [-1]], w)

    def test_empty_queue(self):
        for w in range(1, 7):
            self.assertEqual(ask(take(w)), [[-5]], w)
            self.assertEqual(ask(mark(1), take(w), take(w), take(w)), [[1], [3, 1, 0], [-5], [-5]], w)

    def test_other_queues_do_not_count(self):
        self.assertEqual(ask(event(0, 1), take(2), take(1)), [[1], [-5], [1, 0, 1, 1]])


class Held(unittest.TestCase):
    def test_event(self):
        house = house_after(event(5, 7), event(5, 0), take(1), take(1))
        self.assertEqual(house.spoken, [(1, 5, 0, 8), (1, 5, 0, 249)])
        self.assertEqual(house.groups[1].events, {5: 2})

    def test_alarm(self):
        self.assertEqual(ask(alarm(5, 1), take(1))[1:], [[2, 5, 1, 0]])
        self.assertEqual(ask(alarm(5, 0), take(1))[1:], [[2, 5, 0, 1]])

    def test_alarm_behind_the_mark(self):
        calls = [mark(8), alarm(0, 7), alarm(0, 8), alarm(0, 9), mark(9)]
        self.assertEqual(ask(*calls, *[take(1)] * 5)[5:],
                         [[3, 8, 0], [2, 0, 7, 1], [2, 0, 8, 1], [2, 0, 9, 0], [3, 9, 1]])

    def test_alarm_ahead_of_a_mark_that_is_only_posted(self):
        self.assertEqual(ask(alarm(0, 3), mark(8), take(1), take(1))[2:], [[2, 0, 3, 0], [3, 8, 1]])

    def test_mark_group_by_group_in_order(self):
        alarms = [alarm(3, 1), alarm(6, 5), alarm(2, 5), alarm(10, 4), alarm(7, 1), alarm(2, 6)]
        house = house_after(*alarms, mark(5), *[take(2)] * 7)
        self.assertEqual(house.spoken, [(2, 10, 1, 4), (2, 2, 1, 5), (2, 6, 1, 5), (2, 3, 1, 1), (2, 7, 1, 1)])
        self.assertEqual(last(*alarms, mark(5), *[take(2)] * 7), [3, 5, 5])

    def test_mark_only_for_the_taker(self):
        calls = [alarm(0, 1), alarm(2, 1), take(1), take(2), mark(5)]
        self.assertEqual(ask(*calls, take(2), take(1))[5:], [[3, 5, 1], [3, 5, 1]])
        house = house_after(*calls, take(2))
        self.assertEqual([group.heard for group in house.groups], [0, 0, 5, 5])
        house = house_after(*calls, take(1))
        self.assertEqual([group.heard for group in house.groups], [5, 5, 0, 0])

    def test_alarm_is_said_once(self):
        calls = [alarm(0, 5), mark(5), mark(5), mark(6), take(1), take(1), take(1), take(1)]
        self.assertEqual(ask(*calls)[4:], [[2, 0, 5, 0], [3, 5, 1], [3, 5, 0], [3, 6, 0]])

    def test_leaves(self):
        house = house_after(move(1, 3), move(0, 2), take(1), take(1))
        self.assertEqual(house.under_way, [(1, 3), (0, 2)])
        self.assertEqual(house.holders, [0, 0, 2, 2])

    def test_left_group_hears_no_mark(self):
        calls = [alarm(0, 1), alarm(1, 1), move(0, 2), mark(5)]
        self.assertEqual(ask(*calls, *[take(1)] * 4)[4:], [[2, 0, 1, 0], [2, 1, 1, 0], [4, 0, 2, 0], [3, 5, 1]])

    def test_group_goes_with_its_state(self):
        house = house_after(event(0, 3), alarm(0, 9), mark(2), move(0, 2), *[take(1)] * 4)
        group = house.groups[0]
        self.assertEqual((group.events, group.memories, group.alarms, group.heard), ({0: 1}, {0: 4}, [(9, 0)], 2))


class NotHeld(unittest.TestCase):
    def test_awaited(self):
        self.assertEqual(ask(move(0, 2), take(2))[1:], [[5, 0, 0]])
        house = house_after(move(0, 2), take(2))
        self.assertEqual(house.staff[1].waiting, {0: []})
        self.assertEqual(house.holders, [1, 1, 2, 2])

    def test_event_and_alarm_wait(self):
        calls = [move(0, 2), event(0, 7), alarm(4, 0), take(2), take(2), take(2)]
        self.assertEqual(ask(*calls)[3:], [[5, 0, 0], [1, 0, 7, 0], [2, 4, 0, 0]])
        house = house_after(*calls)
        self.assertEqual(house.staff[1].waiting, {0: [(1, 0, 7), (2, 4, 0)]})
        self.assertEqual(house.spoken, [])
        self.assertEqual((house.groups[0].events, house.groups[0].alarms), ({}, []))

    def test_whoever_holds_it_yet(self):
        for g, w in [(0, 2), (2, 1), (3, 6)]:
            self.assertEqual(ask(move(g, w), event(g, 7), take(w), take(w))[2:], [[5, g, 0], [1, g, 7, 0]])

    def test_mark_waits_for_each_and_is_heard_by_the_held(self):
        calls = [alarm(2, 4), move(1, 2), move(0, 2), mark(5), take(2), take(2), take(2), take(2)]
        self.assertEqual(ask(*calls)[4:], [[2, 2, 4, 0], [5, 1, 0], [5, 0, 0], [3, 5, 1]])
        house = house_after(*calls)
        self.assertEqual(list(house.staff[1].waiting.items()), [(1, [(3, 5)]), (0, [(3, 5)])])
        self.assertEqual([group.heard for group in house.groups], [0, 0, 5, 5])

    def test_mark_ahead_of_the_awaiting_does_not_wait(self):
        house = house_after(mark(5), move(0, 2), take(2), take(2))
        self.assertEqual(house.staff[1].waiting, {0: []})

    def test_leaving_waits(self):
        calls = [move(0, 2), move(0, 3), take(2), take(2)]
        self.assertEqual(ask(*calls)[2:], [[5, 0, 0], [4, 0, 3, 0]])
        house = house_after(*calls)
        self.assertEqual(house.staff[1].waiting, {0: [(4, 0, 3)]})
        self.assertEqual(house.under_way, [])
        self.assertEqual(house.holders[0], 1)

    def test_awaited_again(self):
        calls = [move(0, 2), event(0, 1), move(0, 3), mark(4), move(0, 2), event(0, 2), *[take(2)] * 6]
        self.assertEqual(ask(*calls)[6:],
                         [[5, 0, 0], [1, 0, 1, 0], [4, 0, 3, 0], [3, 4, 0], [5, 0, 0], [1, 0, 2, 0]])
        house = house_after(*calls)
        self.assertEqual(house.staff[1].waiting, {0: [(1, 0, 1), (4, 0, 3), (3, 4), (5, 0), (1, 0, 2)]})

    def test_groups_wait_apart(self):
        calls = [move(0, 2), move(1, 2), event(1, 1), event(0, 2), *[take(2)] * 4]
        self.assertEqual(house_after(*calls).staff[1].waiting, {0: [(1, 0, 2)], 1: [(1, 1, 1)]})

    def test_back_to_the_old_worker(self):
        calls = [move(0, 2), move(0, 1), event(0, 1), take(1), take(1), take(1)]
        self.assertEqual(ask(*calls)[3:], [[4, 0, 2, 0], [5, 0, 0], [1, 0, 1, 0]])
        house = house_after(*calls)
        self.assertEqual(house.under_way, [(0, 2)])
        self.assertEqual(house.staff[0].waiting, {0: [(1, 0, 1)]})

    def test_awaited_that_came_early_is_held(self):
        house = house_after(move(0, 2), take(1), come(1))
        self.assertEqual((house.staff[1].early, house.holders), ({0: True}, [0, 1, 2, 2]))
        self.assertEqual(house.take(2), [5, 0, 0])
        self.assertEqual(house.holders, [2, 1, 2, 2])
        self.assertEqual((house.staff[1].early, house.staff[1].waiting), ({}, {}))
        house.event(0, 6)
        self.assertEqual(house.take(2), [1, 0, 6, 1])

    def test_of_rescale(self):
        calls = [begin(4, 1), rescale(2), event(3, 1), take(2), take(2), take(2)]
        self.assertEqual(ask(*calls)[3:], [[5, 2, 0], [5, 3, 0], [1, 3, 1, 0]])


if __name__ == "__main__":
    unittest.main()
