"""Over many made-up lists of calls: what holds over the whole program, whatever's moved when."""

import itertools
import random
import unittest

from movedkeys.desk import answers
from tests.asking import (alarm, ask, begin, come, event, house_after, key, mark, move, rescale, rows, said, take,
                          trips, turns, worker)

SEEDS = range(300)
LOOK = [said(0), trips(), *[worker(w) for w in range(1, 7)], *[key(g) for g in range(12)]]


def some_calls(seed, size):
    """Calls with one begin at their head; how often each kind of call comes differs from seed to seed."""
    chance = random.Random(seed)
    groups = chance.randint(1, 12)
    kinds = [
        lambda step: event(chance.randrange(100), chance.randrange(1001)),
        lambda step: alarm(chance.randrange(100), chance.randrange(150)),
        lambda step: mark(step),
        lambda step: move(chance.randrange(groups), chance.randint(1, 6)),
        lambda step: rescale(chance.randint(1, 6)),
        lambda step: take(chance.randint(1, 6)),
        lambda step: come(chance.randint(1, 4)),
        lambda step: turns(chance.randint(0, 2)),
    ]
    weights = [chance.choice([1, 3, 9]) for kind in kinds]
    chosen = chance.choices(kinds, weights, k=size - 1)
    return [begin(groups, chance.randint(1, 6))] + [kind(step) for step, kind in enumerate(chosen)]


def alone(calls):
    """What one worker alone says of each group, of all that's posted: by group, a list of (key, 0 or 1, number)."""
    groups = calls[0][1]
    words = [[] for g in range(groups)]
    memory = [0] * 100
    alarms = []
    heard = 0
    for call, answer in zip(calls, ask(*calls)):
        if answer[0] < 0:
            continue
        if call[0] == 1:
            memory[call[1]] = (31 * memory[call[1]] + call[2] + 1) % 65521
            words[call[1] % groups].append((call[1], 0, memory[call[1]]))
        elif call[0] == 2:
            alarms.append((call[2], call[1]))
        elif call[0] == 3:
            heard = call[1]
        # An alarm that's due at once is as one that's kept and due by the mark heard.
        for due in sorted(one for one in alarms if one[0] <= heard):
            words[due[1] % groups].append((due[1], 1, due[0]))
            alarms.remove(due)
    return words


def said_by_group(groups, answer):
    words = [[] for g in range(groups)]
    for word in rows(answer, 4):
        words[word[1] % groups].append(word[1:])
    return words


class AsOneWorkerAlone(unittest.TestCase):
    def test_as_far_as_it_has_been_done(self):
        for seed in SEEDS:
            calls = some_calls(seed, 99)
            told = said_by_group(calls[0][1], ask(*calls, said(0))[-1])
            for g, words in enumerate(alone(calls)):
                self.assertEqual(told[g], words[:len(told[g])], (seed, g))

    def test_all_of_it_in_the_end(self):
        for seed in SEEDS:
            calls = some_calls(seed, 90)
            given = ask(*calls, *[turns(200)] * 8, said(0))
            self.assertEqual(given[-2], [0], seed)
            self.assertEqual(said_by_group(calls[0][1], given[-1]), alone(calls), seed)

    def test_all_of_it_whoever_is_slow(self):
        for seed in SEEDS:
            chance = random.Random(seed)
            calls = [call for call in some_calls(seed, 60) if call[0] < 6]
            house = house_after(*calls)
            while any(one.queue for one in house.staff) or house.under_way:
                # Mostly one worker takes, or one late trip comes, while the others stand still.
                w = chance.randint(1, 6)
                for step in range(chance.randint(1, 9)):
                    house.take(w)
                house.come(chance.randint(1, 6))
            self.assertEqual(said_by_group(calls[0][1], house.said(0)), alone(calls), seed)


class OnePlace(unittest.TestCase):
    def check_places(self, groups, given, seed):
        """By the answers to LOOK: each group is held once, or on its way once, or one of the early ones."""
        on_their_way = rows(given[1], 2)
        held = {w: given[1 + w][2:2 + given[1 + w][1]] for w in range(1, 7)}
        early = sum(given[1 + w][-1] for w in range(1, 7))
        found = [g for w in held for g in held[w]] + [trip[0] for trip in on_their_way]
        self.assertEqual(len(found), len(set(found)), seed)
        self.assertEqual(len(found) + early, groups, seed)
        for g in range(groups):
            told = given[8 + g]
            self.assertEqual(told[0], g, seed)
            self.assertEqual([w for w in held if g in held[w]], [told[2]] if told[2] else [], seed)

    def test_at_any_time(self):
        for seed in SEEDS:
            calls = some_calls(seed, 80)
            for size in range(1, 81, 13):
                self.check_places(calls[0][1], ask(*calls[:size], *LOOK)[size:], seed)

    def test_in_the_end_with_whose_it_is(self):
        for seed in SEEDS:
            calls = some_calls(seed, 70)
            given = ask(*calls, *[turns(200)] * 8, *LOOK)[-len(LOOK):]
            self.check_places(calls[0][1], given, seed)
            self.assertEqual(given[1], [0], seed)
            for told in given[2:8]:
                self.assertEqual((told[0], told[-2], told[-1]), (0, 0, 0), seed)
            for told in given[8:]:
                self.assertEqual(told[1], told[2], seed)

    def test_owner_holds_or_awaits_it(self):
        for seed in SEEDS:
            house = house_after(*some_calls(seed, 100))
            for g, owner in enumerate(house.owners):
                one = house.staff[owner - 1]
                self.assertTrue(house.holders[g] == owner or g in one.waiting or (5, g) in one.queue, seed)


class AsFewAsCanBe(unittest.TestCase):
    def fewest(self, owners, n):
        share, left_over = divmod(len(owners), n)
        return len(owners) - max(
            sum(min(owners.count(w), share + (w in more)) for w in range(1, n + 1))
            for more in itertools.combinations(range(1, n + 1), left_over)
        )

    def test_rescale(self):
        for seed in SEEDS:
            calls = some_calls(seed, 100)
            groups = calls[0][1]
            owners = [g * calls[0][2] // groups + 1 for g in range(groups)]
            for call, answer in zip(calls, ask(*calls)):
                if call[0] == 4:
                    self.assertEqual(answer, [owners[call[1]]], seed)
                    owners[call[1]] = call[2]
                elif call[0] == 5:
                    self.assertEqual(answer[0], self.fewest(owners, call[1]), (seed, call))
                    for g, w in rows(answer, 2):
                        self.assertNotEqual(owners[g], w, seed)
                        owners[g] = w
                    counts = [owners.count(w) for w in range(1, call[1] + 1)]
                    self.assertEqual(sum(counts), groups, seed)
                    self.assertLessEqual(max(counts) - min(counts), 1, seed)


class Forms(unittest.TestCase):
    WIDTHS = {5: 2, 9: 4, 12: 2}
    TAKEN = {1: 4, 2: 4, 3: 3, 4: 4, 5: 3}

    def size_of(self, call, answer):
        if answer[0] < 0:
            return 1
        if call[0] in self.WIDTHS:
            return 1 + answer[0] * self.WIDTHS[call[0]]
        if call[0] == 11:
            return 4 + answer[1] + 2 * answer[2 + answer[1]]
        if call[0] == 6:
            return self.TAKEN[answer[0]]
        return {7: 3, 10: 6}.get(call[0], 1)

    def test_sizes_of_answers(self):
        for seed in SEEDS:
            calls = some_calls(seed, 80) + LOOK
            for call, answer in zip(calls, ask(*calls)):
                self.assertEqual(len(answer), self.size_of(call, answer), (seed, call))

    def test_second_time_and_the_list_as_it_was(self):
        for seed in SEEDS:
            flat = [number for call in some_calls(seed, 80) + LOOK for number in call]
            kept = list(flat)
            first = answers(flat)
            self.assertEqual(flat, kept)
            self.assertEqual(answers(flat), first)


if __name__ == "__main__":
    unittest.main()
