"""Promises [3], [4], [5] and [7] against another way of working them out, over many walkers."""

import random
import unittest

from saidroad import spreading
from tests import oracle

CASES = 1500


def drawn(chance):
    """Walkers near or far, with paces alike or not, and a start at a walker's place or elsewhere."""
    reach = chance.choice([1, 2, 3, 6, 20, 99])
    pace = chance.choice([0, 1, 2, 3, 9])
    walkers = []
    for _ in range(chance.randint(0, 8)):
        walkers.append((chance.randint(-reach, reach), chance.randint(-pace, pace)))
    start = chance.randint(-reach, reach)
    if walkers and chance.random() < 0.5:
        start = chance.choice(walkers)[0]
    return tuple(walkers), start


def drawn_time(chance):
    return chance.choice([
        (chance.randint(0, 12), 1), (chance.randint(0, 60), chance.randint(1, 18)),
        (chance.randint(0, 99999), chance.randint(1, 999)),
    ])


class Agreement(unittest.TestCase):
    def setUp(self):
        self.chance = random.Random(2026)

    def test_who_knows_and_who_drives(self):
        for _ in range(CASES):
            walkers, start = drawn(self.chance)
            for name in ("learnt", "drivers", "tellers"):
                answer = getattr(spreading, name)(walkers, start)
                self.assertEqual(answer, getattr(oracle, name)(walkers, start), (name, walkers, start))

    def test_what_is_known(self):
        for _ in range(CASES):
            walkers, start = drawn(self.chance)
            for place in (self.chance.randint(-99, 99), self.chance.randint(-9, 9)):
                answer = spreading.known(walkers, start, place)
                self.assertEqual(answer, oracle.known(walkers, start, place), (walkers, start, place))
            time = drawn_time(self.chance)
            answer = spreading.stretch(walkers, start, time)
            self.assertEqual(answer, oracle.stretch(walkers, start, time), (walkers, start, time))

    def test_the_stretch_at_each_time_at_which_something_happens(self):
        for _ in range(CASES // 5):
            walkers, start = drawn(self.chance)
            ends = spreading.drivers(walkers, start)
            times = [time for time, _ in ends[0] + ends[1]] + [time for time in spreading.learnt(walkers, start) if time]
            for time in times:
                answer = spreading.stretch(walkers, start, time)
                self.assertEqual(answer, oracle.stretch(walkers, start, time), (walkers, start, time))

    def test_which_starts_fit(self):
        for _ in range(25):
            walkers, start = drawn(self.chance)
            time = drawn_time(self.chance)
            left, right = spreading.stretch(walkers, start, time)
            if max(abs(left[0]), abs(right[0])) > 99999:
                continue
            answer = spreading.starts(walkers, time, left, right)
            self.assertIn(start, answer)
            self.assertEqual(answer, oracle.starts(walkers, time, left, right), (walkers, time, left, right))


if __name__ == "__main__":
    unittest.main()
