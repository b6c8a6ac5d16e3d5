"""The house: the router, the workers and the groups, and the calls on them.

A call gives back its answer as a list of whole numbers; a refusal is one number below 0.
"""

from movedkeys.group import Group
from movedkeys.kinds import ALARM, AWAITED, EVENT, LEAVES, MARK
from movedkeys.shares import owners_with
from movedkeys.worker import Worker

MOST_GROUPS = 12
MOST_WORKERS = 6
LAST_KEY = 99
MOST_V = 1000
LAST_TIME = 1000000
MOST_TURNS = 200


def is_worker(w):
    return 1 <= w <= MOST_WORKERS


def counted(rows):
    numbers = [len(rows)]
    for row in rows:
        numbers.extend(list(row))
    return numbers


class House:
    def __init__(self):
        self.make_new(4, 2)

    def make_new(self, groups, n):
        self.groups = [Group() for g in range(groups)]
        self.owners = [g * n // groups + 1 for g in range(groups)]
        # The router's owner and the holder differ while a group is being moved;
        # a holder of 0 is nobody: the group is on its way, or came early.
        self.holders = list(self.owners)
        self.staff = [Worker() for w in range(MOST_WORKERS)]
        self.under_way = []
        self.spoken = []
        self.marked = 0

    def begin(self, groups, n):
        if not 1 <= groups <= MOST_GROUPS or not is_worker(n):
            return [-1]
        self.make_new(groups, n)
        return [0]

    def event(self, key, v):
        if key > LAST_KEY or v > MOST_V:
            return [-1]
        return [self.post_to_owner((EVENT, key, v))]

    def alarm(self, key, time):
        if key > LAST_KEY or time > LAST_TIME:
            return [-1]
        return [self.post_to_owner((ALARM, key, time))]

    def mark(self, m):
        if m < self.marked:
            return [-2]
        if m > LAST_TIME:
            return [-3]
        self.marked = m
        for w in range(1, MOST_WORKERS + 1):
            self.post(w, (MARK, m))
        return [m]

    def move(self, g, w):
        if g >= len(self.groups) or not is_worker(w):
            return [-1]
        owner = self.owners[g]
        if owner != w:
            self.move_group(g, w)
        return [owner]

    def rescale(self, n):
        if not is_worker(n):
            return [-1]
        targets = owners_with(self.owners, n)
        moves = [(g, w) for g, w in enumerate(targets) if w != self.owners[g]]
        for move in moves:
            self.move_group(move[0], move[1])
        return counted(moves)

    def take(self, w):
        if not is_worker(w):
            return [-1]
        queue = self.worker_of(w).queue
        if len(queue) == 0:
            return [-5]
        entry = queue.pop(0)
        said_before = len(self.spoken)
        self.take_entry(w, entry)
        return list(entry) + [len(self.spoken) - said_before]

    def come(self, k):
        if not 1 <= k <= len(self.under_way):
            return [-5]
        trip = self.under_way.pop(k - 1)
        said_before = len(self.spoken)
        self.arrive(trip[0], trip[1])
        return list(trip) + [len(self.spoken) - said_before]

    def turns(self, n):
        if n > MOST_TURNS:
            return [-1]
        done = 0
        for turn in range(n):
            done += self.go_round()
        return [done]

    def said(self, n):
        return counted(self.spoken[n:])

    def key(self, k):
        if k > LAST_KEY:
            return [-1]
        g = self.group_of_key(k)
        return [g, self.owners[g], self.holders[g]] + self.groups[g].figures_of(k)

    def worker(self, w):
        if not is_worker(w):
            return [-1]
        worker = self.worker_of(w)
        held = [(g,) for g in self.held_by(w)]
        awaited = [(g, len(worker.waiting[g])) for g in worker.waiting]
        return [len(worker.queue)] + counted(held) + counted(awaited) + [len(worker.early)]

    def trips(self):
        return counted(self.under_way)

    def worker_of(self, w):
        return self.staff[w - 1]

    def held_by(self, w):
        return [g for g, holder in enumerate(self.holders) if holder == w]

    def group_of_key(self, key):
        return key % len(self.groups)

    def group_of(self, entry):
        if entry[0] == EVENT or entry[0] == ALARM:
            return self.group_of_key(entry[1])
        return entry[1]

    def post(self, w, entry):
        self.worker_of(w).queue.append(entry)

    def post_to_owner(self, entry):
        owner = self.owners[self.group_of(entry)]
        self.post(owner, entry)
        return owner

    def move_group(self, g, w):
        self.post(self.owners[g], (LEAVES, g, w))
        self.post(w, (AWAITED, g))
        self.owners[g] = w

    def take_entry(self, w, entry):
        if entry[0] == MARK:
            self.take_mark(w, entry)
        elif entry[0] == AWAITED:
            self.take_awaited(w, entry[1])
        else:
            self.take_for_group(w, self.group_of(entry), entry)

    def take_mark(self, w, entry):
        for g in self.held_by(w):
            self.do_entry(w, g, entry)
        self.worker_of(w).put_to_all_waiting(entry)

    def take_awaited(self, w, g):
        worker = self.worker_of(w)
        if g in worker.early:
            worker.early.pop(g)
            self.holders[g] = w
        else:
            worker.await_group(g)

    def take_for_group(self, w, g, entry):
        if self.holders[g] == w:
            self.do_entry(w, g, entry)
        else:
            self.worker_of(w).put_to_waiting(g, entry)

    def go_round(self):
        done = 0
        for w in range(1, MOST_WORKERS + 1):
            if len(self.worker_of(w).queue) > 0:
                self.take(w)
                done += 1
        if len(self.under_way) > 0:
            self.come(1)
            done += 1
        return done

    def arrive(self, g, w):
        worker = self.worker_of(w)
        if g in worker.waiting:
            self.holders[g] = w
            self.do_what_waited(w, g, worker.waiting.pop(g))
        else:
            worker.early[g] = True

    def do_what_waited(self, w, g, waited):
        for place, entry in enumerate(waited):
            self.do_entry(w, g, entry)
            if entry[0] == LEAVES:
                self.worker_of(w).await_anew(g, waited[place + 1:])
                return

    def do_entry(self, w, g, entry):
        group = self.groups[g]
        if entry[0] == EVENT:
            self.say(w, group.take_event(entry[1], entry[2]))
        elif entry[0] == ALARM:
            self.say(w, group.set_alarm(entry[1], entry[2]))
        elif entry[0] == MARK:
            self.say(w, group.hear(entry[1]))
        else:
            self.holders[g] = 0
            self.under_way.append((g, entry[2]))

    def say(self, w, words):
        for word in words:
            self.spoken.append((w, word[0], word[1], word[2]))
