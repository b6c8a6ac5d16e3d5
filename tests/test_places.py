"""Over many mixed calls: each group is in one place, and each answer has its form."""

import random
import unittest

from tests.asking import alarm, ask, begin, event, house_after, mark, move, rescale, take


def some_call(chance, step):
    return chance.choice([
        event(chance.randrange(100), chance.randrange(1001)),
        alarm(chance.randrange(100), chance.randrange(120)),
        mark(step),
        move(chance.randrange(4), chance.randint(1, 6)),
        rescale(chance.randint(1, 6)),
    ] + [take(w) for w in range(1, 7)] * 2)


def some_calls(seed):
    chance = random.Random(seed)
    first = [begin(chance.randint(4, 12), chance.randint(1, 6))]
    return first + [some_call(chance, step) for step in range(99)]


class Places(unittest.TestCase):
    def test_each_group_is_in_one_place(self):
        for seed in range(200):
            house = house_after(*some_calls(seed))
            on_its_way = [trip[0] for trip in house.under_way]
            for g, holder in enumerate(house.holders):
                self.assertEqual((holder == 0) + on_its_way.count(g), 0 if holder else 2, seed)

    def test_owner_holds_or_awaits(self):
        for seed in range(200):
            house = house_after(*some_calls(seed))
            for g, owner in enumerate(house.owners):
                worker = house.staff[owner - 1]
                awaits = g in worker.waiting or (5, g) in worker.queue
                self.assertTrue(house.holders[g] == owner or awaits, seed)

    def test_forms_of_answers(self):
        for seed in range(200):
            calls = some_calls(seed)
            for call, answer in zip(calls, ask(*calls)):
                if answer[0] < 0:
                    self.assertEqual(len(answer), 1)
                elif call[0] == 5:
                    self.assertEqual(len(answer), 1 + 2 * answer[0])
                elif call[0] == 6:
                    self.assertEqual(len(answer), {1: 4, 2: 4, 3: 3, 4: 4, 5: 3}[answer[0]])
                else:
                    self.assertEqual(len(answer), 1)


if __name__ == "__main__":
    unittest.main()
