"""Behind a refusal all is as it was."""

import unittest

from tests.asking import (MOST, alarm, ask, begin, come, event, house_after, key, mark, move, picture, rescale, said,
                          take, trips, turns, worker)

ORDINARY = [
    event(5, 7), alarm(4, 30), mark(20), take(1), move(1, 2), event(1, 3), take(2), take(2), take(2),
    rescale(3), move(0, 6), take(1), take(1), mark(31), take(1), take(1), take(3), take(6), take(6),
    key(1), trips(), come(1), worker(2), turns(2), trips(), said(1), worker(6), key(0), worker(1),
]
REFUSED = [
    begin(0, 2), begin(13, 2), begin(4, 0), begin(4, 7), begin(MOST, MOST),
    event(100, 0), event(0, 1001), event(MOST, MOST),
    alarm(100, 0), alarm(0, 1000001), alarm(MOST, MOST),
    mark(1000001), mark(MOST),
    move(4, 1), move(0, 0), move(0, 7), move(MOST, MOST),
    rescale(0), rescale(7), rescale(MOST),
    take(0), take(7), take(MOST),
    come(0), come(6), come(MOST), turns(201), turns(MOST),
    key(100), key(MOST), worker(0), worker(7), worker(MOST),
]


class AsItWas(unittest.TestCase):
    def test_answers_are_the_same(self):
        plain = ask(*ORDINARY)
        for at in range(len(ORDINARY) + 1):
            for call in REFUSED:
                given = ask(*ORDINARY[:at], call, *ORDINARY[at:])
                self.assertLess(given.pop(at)[0], 0)
                self.assertEqual(given, plain, (at, call))

    def test_all_that_is_kept_is_the_same(self):
        for at in range(len(ORDINARY) + 1):
            before = picture(house_after(*ORDINARY[:at]))
            for call in REFUSED:
                self.assertEqual(picture(house_after(*ORDINARY[:at], call)), before, (at, call))

    def test_take_of_an_empty_queue(self):
        before = picture(house_after(*ORDINARY[:2]))
        self.assertEqual(ask(*ORDINARY[:2], take(5))[-1], [-5])
        self.assertEqual(picture(house_after(*ORDINARY[:2], take(5))), before)

    def test_come_behind_the_last(self):
        before = house_after(*ORDINARY)
        k = len(before.under_way) + 1
        self.assertEqual(ask(*ORDINARY, come(k))[-1], [-5])
        self.assertEqual(picture(house_after(*ORDINARY, come(k))), picture(before))

    def test_mark_below_the_last(self):
        before = picture(house_after(*ORDINARY))
        self.assertEqual(ask(*ORDINARY, mark(30))[-1], [-2])
        self.assertEqual(picture(house_after(*ORDINARY, mark(30))), before)


if __name__ == "__main__":
    unittest.main()
