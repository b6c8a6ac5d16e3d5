"""The house: the router, the workers and the groups, and the calls on them.

A call gives back its answer as a list of whole numbers; a refusal is one number below 0.
"""

from movedkeys.group import Group
from movedkeys.kinds import ALARM, AWAITED, EVENT, LEAVES, MARK
from movedkeys.shares import owners_with
from movedkeys.worker import Worker

MOST_GROUPS = 12
MOST_WORKERS = 6
LAST_KEY = 99
MOST_V = 1000
LAST_TIME = 1000000


def is_worker(w):
    return 1 <= w <= MOST_WORKERS


class House:
    def __init__(self):
        self.make_new(4, 2)

    def make_new(self, groups, n):
        self.groups = [Group() for g in range(groups)]
        self.owners = [g * n // groups + 1 for g in range(groups)]
        # The router's owner and the holder differ while a group is being moved;
        # a holder of 0 is nobody: the group is on its way, or came early.
        self.holders = list(self.owners)
        self.staff = [Worker() for w in range(MOST_WORKERS)]
        self.under_way = []
        self.spoken = []
        self.marked = 0

    def begin(self, groups, n):
        if not 1 <= groups <= MOST_GROUPS or not is_worker(n):
            return [-1]
        self.make_new(groups, n)
        return [0]

    def event(self, key, v):
        if key > LAST_KEY or v > MOST_V:
            return [-1]
        return [self.post_to_owner((EVENT, key, v))]

    def alarm(self, key, time):
        if key > LAST_KEY or time > LAST_TIME:
            return [-1]
        return [self.post_to_owner((ALARM, key, time))]

    def mark(self, m):
        if m < self.marked:
            return [-2]
        if m > LAST_TIME:
            return [-3]
        self.marked = m
        for w in range(1, MOST_WORKERS + 1):
            self.post(w, (MARK, m))
        return [m]

    def move(self, g, w):
        if g >= len(self.groups) or not is_worker(w):
            return [-1]
        owner = self.owners[g]
        if owner != w:
            self.move_group(g, w)
        return [owner]

    def rescale(self, n):
        if not is_worker(n):
            return [-1]
        targets = owners_with(self.owners, n)
        moved = [g for g in range(len(targets)) if targets[g] != self.owners[g]]
        answer = [len(moved)]
        for g in moved:
            self.move_group(g, targets[g])
            answer.extend([g, targets[g]])
        return answer

    def take(self, w):
        if not is_worker(w):
            return [-1]
        queue = self.worker_of(w).queue
        if len(queue) == 0:
            return [-5]
        entry = queue.pop(0)
        said_before = len(self.spoken)
        self.take_entry(w, entry)
        return list(entry) + [len(self.spoken) - said_before]

    def worker_of(self, w):
        return self.staff[w - 1]

    def group_of(self, entry):
        if entry[0] == EVENT or entry[0] == ALARM:
            return entry[1] % len(self.groups)
        return entry[1]

    def post(self, w, entry):
        self.worker_of(w).queue.append(entry)

    def post_to_owner(self, entry):
        owner = self.owners[self.group_of(entry)]
        self.post(owner, entry)
        return owner

    def move_group(self, g, w):
        self.post(self.owners[g], (LEAVES, g, w))
        self.post(w, (AWAITED, g))
        self.owners[g] = w

    def take_entry(self, w, entry):
        if entry[0] == MARK:
            self.take_mark(w, entry)
        elif entry[0] == AWAITED:
            self.take_awaited(w, entry[1])
        else:
            self.take_for_group(w, self.group_of(entry), entry)

    def take_mark(self, w, entry):
        for g in range(len(self.groups)):
            if self.holders[g] == w:
                self.do_entry(w, g, entry)
        self.worker_of(w).put_to_all_waiting(entry)

    def take_awaited(self, w, g):
        worker = self.worker_of(w)
        if g in worker.early:
            worker.early.pop(g)
            self.holders[g] = w
        else:
            worker.await_group(g)

    def take_for_group(self, w, g, entry):
        if self.holders[g] == w:
            self.do_entry(w, g, entry)
        else:
            self.worker_of(w).put_to_waiting(g, entry)

    def do_entry(self, w, g, entry):
        group = self.groups[g]
        if entry[0] == EVENT:
            self.say(w, group.take_event(entry[1], entry[2]))
        elif entry[0] == ALARM:
            self.say(w, group.set_alarm(entry[1], entry[2]))
        elif entry[0] == MARK:
            self.say(w, group.hear(entry[1]))
        else:
            self.holders[g] = 0
            self.under_way.append((g, entry[2]))

    def say(self, w, words):
        for word in words:
            self.spoken.append((w, word[0], word[1], word[2]))
