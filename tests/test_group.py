import unittest

from movedkeys.group import Group


class Events(unittest.TestCase):
    def test_memory(self):
        group = Group()
        self.assertEqual(group.take_event(5, 7), [(5, 0, 8)])
        self.assertEqual(group.take_event(5, 0), [(5, 0, 249)])
        self.assertEqual(group.take_event(5, 1000), [(5, 0, 8720)])
        self.assertEqual(group.take_event(5, 1000), [(5, 0, 9237)])

    def test_modulo_edge(self):
        group = Group()
        group.memories[3] = 2113
        self.assertEqual(group.take_event(3, 16), [(3, 0, 65520)])
        group.memories[3] = 2113
        self.assertEqual(group.take_event(3, 17), [(3, 0, 0)])

    def test_keys_apart(self):
        group = Group()
        group.take_event(1, 4)
        group.take_event(1, 4)
        self.assertEqual(group.take_event(5, 4), [(5, 0, 5)])
        self.assertEqual(group.events, {1: 2, 5: 1})
        self.assertEqual(group.memories, {1: 160, 5: 5})


class Alarms(unittest.TestCase):
    def test_by_time_then_by_key(self):
        group = Group()
        for key, time in [(9, 3), (1, 7), (5, 3), (99, 1), (0, 8), (1, 3)]:
            self.assertEqual(group.set_alarm(key, time), [])
        self.assertEqual(group.hear(7), [(99, 1, 1), (1, 1, 3), (5, 1, 3), (9, 1, 3), (1, 1, 7)])
        self.assertEqual(group.alarms, [(8, 0)])
        self.assertEqual(group.hear(7), [])
        self.assertEqual(group.hear(8), [(0, 1, 8)])
        self.assertEqual(group.alarms, [])

    def test_time_at_most_the_mark_heard(self):
        group = Group()
        group.hear(10)
        self.assertEqual(group.set_alarm(2, 9), [(2, 1, 9)])
        self.assertEqual(group.set_alarm(2, 10), [(2, 1, 10)])
        self.assertEqual(group.set_alarm(2, 11), [])
        self.assertEqual(group.alarms, [(11, 2)])

    def test_time_0_before_any_mark(self):
        group = Group()
        self.assertEqual(group.set_alarm(2, 0), [(2, 1, 0)])
        self.assertEqual(group.set_alarm(2, 1), [])

    def test_same_alarm_twice(self):
        group = Group()
        group.set_alarm(2, 4)
        group.set_alarm(2, 4)
        self.assertEqual(group.hear(4), [(2, 1, 4), (2, 1, 4)])

    def test_heard_is_never_less(self):
        group = Group()
        group.hear(10)
        group.hear(6)
        self.assertEqual(group.heard, 10)
        self.assertEqual(group.set_alarm(1, 8), [(1, 1, 8)])

    def test_groups_apart(self):
        first = Group()
        second = Group()
        first.take_event(1, 1)
        first.set_alarm(1, 5)
        first.hear(3)
        self.assertEqual((second.events, second.memories, second.alarms, second.heard), ({}, {}, [], 0))


if __name__ == "__main__":
    unittest.main()
