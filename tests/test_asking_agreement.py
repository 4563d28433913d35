"""Promises [6] to [8] against another way of working them out, and against what known tells, over many walkers."""

import random
import unittest
from fractions import Fraction

from saidroad import asking
from saidroad.errors import BadChain, NeverKnown
from saidroad.spreading import drivers, known, stretch, tellers
from tests import asking_oracle, oracle
from tests.test_agreement import drawn, drawn_time

CASES = 300


def drawn_with_twins(chance):
    walkers, start = drawn(chance)
    if walkers and chance.random() < 0.5:
        walkers = tuple(chance.choice(walkers) for _ in range(chance.randint(1, 8)))
    return walkers, start


def drawn_place(chance, start):
    return chance.choice([start, chance.randint(-9, 9), chance.randint(-99, 99)])


def in_other_terms(chance, time):
    many = chance.choice([1, 1, 2, 3])
    return (time[0] * many, time[1] * many)


class Agreement(unittest.TestCase):
    def setUp(self):
        self.chance = random.Random(1926)

    def test_who_could_be_left_out(self):
        for _ in range(CASES):
            walkers, start = drawn_with_twins(self.chance)
            self.assertEqual(asking.spare(walkers, start), asking_oracle.spare(walkers, start), (walkers, start))
            self.assertEqual(asking.lean(walkers, start), asking_oracle.lean(walkers, start), (walkers, start))

    def test_those_left_are_those_who_drive(self):
        for _ in range(CASES):
            walkers, start = drawn_with_twins(self.chance)
            left, right = drivers(walkers, start)
            driving = {number for _, number in left + right}
            self.assertEqual(asking.lean(walkers, start), sorted(driving), (walkers, start))

    def test_which_paces_bring_it_in_time(self):
        for _ in range(CASES // 4):
            walkers, start = drawn(self.chance)
            if not walkers:
                continue
            number = self.chance.randrange(len(walkers))
            place = drawn_place(self.chance, start)
            for time in (drawn_time(self.chance), known(walkers, start, place) or (7, 2)):
                answer = asking.paces(walkers, start, number, place, time)
                handed = (walkers, start, number, place, time)
                self.assertEqual(answer, asking_oracle.paces(*handed), handed)

    def test_which_rumour_is_first(self):
        for _ in range(CASES):
            walkers, one = drawn(self.chance)
            other = self.chance.choice([one, drawn_place(self.chance, one), drawn_place(self.chance, -one)])
            for place in (one, other, drawn_place(self.chance, one)):
                handed = (walkers, one, other, place)
                self.assertEqual(asking.first(*handed), asking_oracle.first(*handed), handed)


class AgreementOfChains(unittest.TestCase):
    def setUp(self):
        self.chance = random.Random(8)

    def judged(self, walkers, start, place, legs):
        try:
            return asking.judged(walkers, start, place, legs)
        except BadChain as bad:
            return ("bad", bad.number)

    def agrees(self, walkers, start, place, legs):
        answer = self.judged(walkers, start, place, legs)
        self.assertEqual(answer, asking_oracle.judged(walkers, start, place, legs), (walkers, start, place, legs))
        return answer

    def bent(self, legs, walkers):
        """The legs with one thing or another changed, most often so that one of them can't be."""
        legs = list(legs)
        where = self.chance.randrange(len(legs))
        number, begin, end = legs[where]
        times = [begin, end, (end[0] + 1, end[1]), (max(0, begin[0] - 1), begin[1]), (end[0] * 2, end[1])]
        number = self.chance.choice([number, number, number, self.chance.randint(0, len(walkers))])
        legs[where] = (number, self.chance.choice(times), self.chance.choice(times))
        return legs

    def test_chains_that_are_told_bring_it_as_soon_as_the_place_knows(self):
        many = 0
        for _ in range(CASES):
            walkers, start = drawn(self.chance)
            for place in {start, *(self.chance.randint(-30, 30) for _ in range(6)), self.chance.randint(-99, 99)}:
                time = known(walkers, start, place)
                if time is None:
                    self.assertRaises(NeverKnown, asking.chain, walkers, start, place)
                    continue
                legs = asking.chain(walkers, start, place)
                self.assertEqual(self.agrees(walkers, start, place, legs), time, (walkers, start, place))
                many += len(legs) > 1
        self.assertGreater(many, 100)

    def test_chains_in_other_terms_and_bent_ones(self):
        seen = {"bad": 0, None: 0, "told": 0}
        for _ in range(CASES * 3):
            walkers, start = drawn(self.chance)
            place = self.chance.randint(-20, 20)
            if known(walkers, start, place) is None or place == start:
                continue
            legs = [
                (number, in_other_terms(self.chance, begin), in_other_terms(self.chance, end))
                for number, begin, end in asking.chain(walkers, start, place)
            ]
            self.assertEqual(self.agrees(walkers, start, place, legs), known(walkers, start, place))
            bent = self.bent(legs, walkers)
            answer = self.agrees(walkers, start, place, bent)
            seen["bad" if answer and answer[0] == "bad" else answer and "told"] += 1
        self.assertTrue(all(many > 10 for many in seen.values()), seen)

    def test_chains_of_any_legs(self):
        many = 0
        for _ in range(CASES * 30):
            walkers = ((0, self.chance.randint(-1, 1)),)
            walkers += tuple((self.chance.randint(-2, 2), self.chance.randint(-2, 2)) for _ in range(2))
            legs = [(0, (0, 1), (self.chance.randint(0, 8), 2))]
            for _ in range(self.chance.randint(0, 2)):
                times = sorted(Fraction(self.chance.randint(0, 8), 2) for _ in range(2))
                legs.append((self.chance.randint(0, 2), oracle.told(times[0]), oracle.told(times[1])))
            answer = self.agrees(walkers, 0, self.chance.randint(-3, 3), legs)
            many += len(legs) > 1 and answer is not None and answer[0] != "bad"
        self.assertGreater(many, 100)

    def test_no_chain_brings_it_sooner(self):
        for _ in range(CASES * 10):
            walkers = tuple((self.chance.randint(-3, 3), self.chance.randint(-2, 2)) for _ in range(3))
            number = self.chance.randint(0, 2)
            legs = [(number, (k, 2), (k + 2, 2)) for k in range(0, self.chance.randint(1, 5))]
            for place in range(-5, 6):
                answer = self.judged(walkers, 0, place, legs)
                if answer is not None and answer[0] != "bad":
                    self.assertLessEqual(Fraction(*known(walkers, 0, place)), Fraction(*answer))


class PartsAgree(unittest.TestCase):
    def setUp(self):
        self.chance = random.Random(6)

    def test_paces_and_known(self):
        for _ in range(CASES // 3):
            walkers, start = drawn(self.chance)
            place = drawn_place(self.chance, start)
            time = known(walkers, start, place)
            if time is None:
                continue
            for number, (_, pace) in enumerate(walkers):
                self.assertIn(pace, asking.paces(walkers, start, number, place, time))
                if time[0] > 0 and time[1] * 9 < 1000:
                    sooner = (time[0] * 9 - 1, time[1] * 9)
                    self.assertNotIn(pace, asking.paces(walkers, start, number, place, sooner))

    def test_first_and_known(self):
        for _ in range(CASES):
            walkers, one = drawn(self.chance)
            other, place = drawn_place(self.chance, one), drawn_place(self.chance, one)
            times = [known(walkers, start, place) for start in (one, other)]
            answer = asking.first(walkers, one, other, place)
            if answer is None:
                self.assertEqual(times[0], times[1])
            else:
                late = times[1 - answer]
                self.assertTrue(late is None or Fraction(*times[answer]) < Fraction(*late))

    def test_those_left_alone_make_the_same_stretch(self):
        for _ in range(CASES // 3):
            walkers, start = drawn_with_twins(self.chance)
            left = asking_oracle.picked(walkers, asking.lean(walkers, start))
            for _ in range(5):
                time = drawn_time(self.chance)
                self.assertEqual(stretch(left, start, time), stretch(walkers, start, time))
            for number in range(len(left)):
                self.assertNotIn(number, asking.spare(left, start))

    def test_judged_and_tellers(self):
        for _ in range(CASES // 3):
            walkers, start = drawn(self.chance)
            for number, row in enumerate(tellers(walkers, start)):
                if row is None or row[1][1] != 1 or abs(row[1][0]) > 99 or row[1][0] == start:
                    continue
                time, point, teller = row
                since = tellers(walkers, start)[teller][0]
                ahead = asking.chain(walkers, start, point[0])
                self.assertEqual(ahead[-1][2], time)
                legs = ahead + [(number, time, time)]
                self.assertEqual(asking.judged(walkers, start, point[0], legs), time)
                self.assertLess(Fraction(*since), Fraction(*time))


if __name__ == "__main__":
    unittest.main()
