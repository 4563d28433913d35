"""Promises [9] to [11] against another way of working them out, and against what stretch tells."""

import random
import unittest

from saidroad.errors import BadDeed, Halted
from saidroad.road import Road
from saidroad.spreading import learnt, stretch
from tests.road_oracle import Cannot, Picture, is_deed, whole
from tests.test_agreement import drawn
from tests.test_road import seen


def drawn_deed(chance, reach):
    """A deed, often one that can be done."""
    word = chance.choice(["come", "come", "leave", "turn", "turn", "say", "wait", "wait", "wait", "wait"])
    place, pace = chance.randint(-reach, reach), chance.randint(-4, 4)
    number = chance.randint(-1, 9)
    if word == "come":
        return (word, place, pace)
    if word == "leave":
        return (word, number)
    if word == "turn":
        return (word, number, pace)
    if word == "say":
        return (word, place)
    return (word, chance.choice([1, 1, 2, 3, 5, 20, 99, 0]))


def is_done(deeds):
    try:
        Picture(deeds)
    except Cannot:
        return False
    return True


class Agreement(unittest.TestCase):
    def setUp(self):
        self.chance = random.Random(9)

    def agrees(self, road, deeds):
        picture = Picture(deeds)
        self.assertEqual(road.deeds(), deeds)
        self.assertEqual(road.walkers(), picture.there, deeds)
        self.assertEqual(list(road.walkers()), sorted(picture.there), deeds)
        self.assertEqual(road.knowing(), sorted(picture.knowing), deeds)
        self.assertEqual(road.stands(), ((picture.time, 1), whole(picture.known)), deeds)

    def test_deeds_there_and_back(self):
        for _ in range(60):
            road, deeds, reach = Road(), [], self.chance.choice([3, 8, 40])
            for _ in range(25):
                if self.chance.random() < 0.1:
                    self.assertEqual(road.back(), bool(deeds))
                    deeds = deeds[:-1]
                    self.agrees(road, deeds)
                    continue
                deed = drawn_deed(self.chance, reach)
                if is_done(deeds + [deed]):
                    deeds = deeds + [deed]
                    self.assertEqual(road.do(deed), whole(Picture(deeds).known), deeds)
                else:
                    self.assertRaises(BadDeed, road.do, deed)
                self.agrees(road, deeds)

    def test_batches(self):
        halts = 0
        for _ in range(150):
            road, deeds = Road(), []
            for _ in range(4):
                batch = [drawn_deed(self.chance, 6) for _ in range(self.chance.randint(0, 4))]
                if self.chance.random() < 0.15:
                    batch.insert(self.chance.randint(0, len(batch)), ("wait",))
                deeds, halted = self.do_batch(road, deeds, batch, self.chance.choice([True, False]))
                self.agrees(road, deeds)
                halts += halted
        self.assertGreater(halts, 100)

    def do_batch(self, road, deeds, batch, keep):
        """Do a batch, as a road and as a list; tell the list behind it, and whether it halted."""
        bad = [number for number, deed in enumerate(batch) if not is_deed(deed)]
        done = [many for many in range(len(batch) + 1) if not bad and is_done(deeds + batch[:many])]
        try:
            told = road.batch(batch, keep=keep)
        except BadDeed as refused:
            self.assertEqual(refused.number, bad[0])
            return deeds, False
        except Halted as halted:
            self.assertEqual(halted.number, done[-1])
            self.assertLess(done[-1], len(batch))
            self.assertEqual(halted.done, done[-1] if keep else 0)
            return deeds + batch[:halted.done], True
        self.assertEqual(done[-1], len(batch))
        self.assertEqual(told, [whole(Picture(deeds + batch[:many]).known) for many in done[1:]])
        return deeds + batch, False


class PartsAgree(unittest.TestCase):
    def setUp(self):
        self.chance = random.Random(10)

    def test_a_road_behind_waits_and_stretch(self):
        for _ in range(150):
            walkers, start = drawn(self.chance)
            road, time = Road(), 0
            road.batch([("come", place, pace) for place, pace in walkers])
            self.assertEqual(road.do(("say", start)), (start, start))
            for _ in range(6):
                many = self.chance.choice([1, 1, 2, 7, 99])
                told = road.do(("wait", many))
                time += many
                left, right = stretch(walkers, start, (time, 1))
                self.assertEqual(((told[0], 1), (told[1], 1)), (left, right), (walkers, start, time))
                self.assertEqual(road.stands(), ((time, 1), told))
                self.assertEqual(road.walkers(), {
                    number: (place + time * pace, pace) for number, (place, pace) in enumerate(walkers)
                })
                knows = learnt(walkers, start)
                self.assertEqual(road.knowing(), [
                    number for number in range(len(walkers)) if knows[number] and knows[number][0] <= time * knows[number][1]
                ])

    def test_turns_to_the_same_pace_and_back_change_nothing(self):
        for _ in range(100):
            walkers, start = drawn(self.chance)
            one, other = Road(), Road()
            for road in (one, other):
                road.batch([("come", place, pace) for place, pace in walkers] + [("say", start)])
            for _ in range(5):
                many = self.chance.randint(1, 9)
                one.do(("wait", many))
                for number, (_, pace) in enumerate(walkers):
                    other.do(("turn", number, -pace))
                    other.do(("turn", number, pace))
                other.do(("wait", 99))
                other.back()
                other.do(("wait", many))
                self.assertEqual(seen(one)[:3], seen(other)[:3])

    def test_all_the_way_back(self):
        for _ in range(20):
            road, pictures = Road(), []
            for _ in range(40):
                deed = drawn_deed(self.chance, 8)
                before = seen(road)
                try:
                    road.do(deed)
                    pictures.append(before)
                except BadDeed:
                    self.assertEqual(seen(road), before)
            for before in reversed(pictures):
                self.assertIs(road.back(), True)
                self.assertEqual(seen(road), before)
            self.assertIs(road.back(), False)


if __name__ == "__main__":
    unittest.main()
