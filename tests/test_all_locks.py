"""The answers against a plain count of all locks, for many lines of calls."""

import unittest
from itertools import product
from random import Random

from tests.helper import CHANGES, KNOWS, LEFT, NEXT, PROBE, SIZES, SURE, ask, begins, plain_answers, subsets, tries


def is_cuttable(key, reach):
    return all(abs(a - b) <= reach for a, b in zip(key, key[1:]))


def some_begins(chance, depths, places):
    reach = chance.randrange(depths + 1)
    keys = [list(key) for key in product(range(depths), repeat=places) if is_cuttable(key, reach)]
    own = chance.choice(keys)
    lock = [sorted({cut, *chance.choice(subsets(depths))}) for cut in own]
    return begins(depths, reach, own, lock)


def some_wrong_begins(chance):
    numbers = [chance.randrange(4) for place in range(chance.randrange(6))]
    lock = [[chance.randrange(4) for cut in range(chance.randrange(3))] for place in numbers]
    return begins(chance.randrange(5), chance.randrange(3), numbers, lock)


def some_key(chance, depths, places):
    if chance.randrange(8) == 0:
        return [chance.randrange(depths + 1) for place in range(chance.randrange(places + 2))]
    return [chance.randrange(depths) for place in range(places)]


def some_line(chance, depths, places, length):
    calls = [some_begins(chance, depths, places)]
    while len(calls) < length:
        kind = chance.randrange(12)
        if kind < 5:
            calls.append(tries(some_key(chance, depths, places)))
        elif kind == 11:
            calls.append(some_wrong_begins(chance))
        else:
            calls.append((KNOWS, LEFT, NEXT, SURE, CHANGES, NEXT)[kind - 5])
    return calls


class ManyLines(unittest.TestCase):
    def assert_alike(self, calls):
        self.assertEqual(ask(*calls), plain_answers(calls), calls)

    def test_lines_of_every_size(self):
        chance = Random(1)
        for depths, places in SIZES:
            for length in (8, 14, 14, 20):
                self.assert_alike(some_line(chance, depths, places, length))

    def test_many_lines_of_small_sizes(self):
        chance = Random(2)
        for depths, places in ((2, 1), (2, 2), (3, 2), (2, 3)):
            for turn in range(150):
                self.assert_alike(some_line(chance, depths, places, 16))

    def test_several_begins_on_a_line(self):
        chance = Random(3)
        for turn in range(60):
            calls = []
            for part in range(3):
                size = chance.choice(((1, 1), (3, 1), (2, 2), (3, 2), (2, 3)))
                calls += some_line(chance, *size, 10)
            self.assert_alike(calls)

    def test_every_own_key_and_lock_of_two_places_and_two_depths(self):
        keys = [list(key) for key in product(range(2), repeat=2)]
        for own, lock, reach in product(keys, product(subsets(2), repeat=2), (0, 1)):
            start = begins(2, reach, own, [sorted(taken) for taken in lock])
            for first, second in product(keys, repeat=2):
                self.assert_alike([start, *PROBE, tries(first), *PROBE, tries(second), *PROBE])

    def test_every_key_tried_in_order(self):
        chance = Random(4)
        for depths, places in SIZES:
            start = some_begins(chance, depths, places)
            keys = [list(key) for key in product(range(depths), repeat=places)]
            chance.shuffle(keys)
            calls = [start]
            for key in keys[:22]:
                calls += [tries(key), LEFT]
            self.assert_alike(calls + PROBE)


if __name__ == "__main__":
    unittest.main()
