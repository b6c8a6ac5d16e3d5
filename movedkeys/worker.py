"""What one worker has beside the groups that it holds."""

from movedkeys.kinds import AWAITED


class Worker:
    def __init__(self):
        self.queue = []
        # By group, what waits for it; a dict keeps which was waited for longest.
        self.waiting = {}
        self.early = {}

    def put_to_waiting(self, g, entry):
        self.waiting[g].append(entry)

    def put_to_all_waiting(self, entry):
        for g in list(self.waiting):
            self.put_to_waiting(g, entry)

    def await_group(self, g):
        if g in self.waiting:
            # Among what waits, an awaiting stands for "again".
            self.put_to_waiting(g, (AWAITED, g))
        else:
            self.waiting[g] = []

    def await_anew(self, g, left_over):
        again = (AWAITED, g)
        if again in left_over:
            # Ahead of "again" stand only marks that the group hears at another worker.
            self.waiting[g] = left_over[left_over.index(again) + 1:]
