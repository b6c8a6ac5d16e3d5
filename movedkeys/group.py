"""A group's state, and what the group does with what is asked of it.

Each doing gives back what is said by it: a list of (key, 0 or 1, number).
"""


class Group:
    def __init__(self):
        self.events = {}
        self.memories = {}
        # An alarm is (time, key), so that sorted tuples stand by time, then by key.
        self.alarms = []
        self.heard = 0

    def take_event(self, key, v):
        memory = (31 * self.memories.get(key, 0) + v + 1) % 65521
        self.memories[key] = memory
        self.events[key] = self.events.get(key, 0) + 1
        return [(key, 0, memory)]

    def set_alarm(self, key, time):
        if time <= self.heard:
            return [(key, 1, time)]
        self.alarms.append((time, key))
        return []

    def hear(self, m):
        due = sorted([alarm for alarm in self.alarms if alarm[0] <= m])
        self.alarms = [alarm for alarm in self.alarms if alarm[0] > m]
        self.heard = max(self.heard, m)
        return [(alarm[1], 1, alarm[0]) for alarm in due]

    def figures_of(self, key):
        alarms = [alarm for alarm in self.alarms if alarm[1] == key]
        return [self.events.get(key, 0), self.memories.get(key, 0), len(alarms)]
