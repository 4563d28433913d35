"""Promise [11], by examples worked out by hand."""

import copy
import unittest

from saidroad.errors import BadDeed, Halted, RoadError
from saidroad.road import Road
from tests.test_road import BAD_DEEDS, NEVER_DONE, gone, seen

START = [("come", 0, 1), ("say", 0)]
GOOD = [("wait", 3), ("come", 3, -2), ("wait", 2)]


class Batch(unittest.TestCase):
    def test_it_tells_what_each_tells(self):
        self.assertEqual(Road().batch(START + GOOD), [None, (0, 0), (0, 3), (0, 3), (-1, 5)])
        self.assertEqual(Road().batch([("come", 0, 1), ("wait", 2)]), [None, None])

    def test_it_does_what_they_do(self):
        for keep in (True, False):
            road = Road()
            road.batch(START + GOOD, keep=keep)
            self.assertEqual(seen(road), seen(gone(*START, *GOOD)))

    def test_of_no_deeds(self):
        for keep in (True, False):
            road = gone(*START)
            self.assertEqual(road.batch([], keep=keep), [])
            self.assertEqual(seen(road), seen(gone(*START)))
            self.assertIs(road.back(), True)
            self.assertEqual(road.deeds(), START[:1])

    def test_back_takes_back_its_last_deed_alone(self):
        road = gone(*START)
        road.batch(GOOD)
        for many in (2, 1, 0):
            self.assertIs(road.back(), True)
            self.assertEqual(seen(road), seen(gone(*START, *GOOD[:many])))
        self.assertIs(road.back(), True)
        self.assertIs(road.back(), True)
        self.assertIs(road.back(), False)

    def test_deeds_and_batches_in_turn(self):
        road = Road()
        road.do(START[0])
        road.batch([START[1]])
        road.do(GOOD[0])
        road.batch(GOOD[1:])
        self.assertEqual(seen(road), seen(gone(*START, *GOOD)))

    def test_keep_is_handed_in_by_its_name_alone(self):
        self.assertRaises(TypeError, Road().batch, [], True)


class NoDeeds(unittest.TestCase):
    def refused(self, road, number, deeds):
        """The batch is refused for this deed, and nothing of it is done."""
        before, handed = seen(road), copy.deepcopy(deeds)
        for keeping in ({}, {"keep": True}, {"keep": False}):
            with self.subTest(deeds=deeds, keeping=keeping):
                with self.assertRaises(RoadError) as caught:
                    road.batch(deeds, **keeping)
                self.assertIs(type(caught.exception), BadDeed)
                self.assertEqual(vars(caught.exception), {"number": number})
                self.assertEqual(seen(road), before)
                self.assertEqual(repr(deeds), repr(handed))

    def test_no_list(self):
        for road in (Road(), gone(*START)):
            for deeds in (None, True, False, 0, 3, "", "say", (), tuple(GOOD), ("wait", 3), (("wait", 3),)):
                self.refused(road, 0, deeds)

    def test_the_first_that_is_none(self):
        for road in (Road(), gone(*START)):
            for deed in BAD_DEEDS:
                self.refused(road, 0, [deed])
                self.refused(road, 3, GOOD + [deed])
                self.refused(road, 1, [("wait", 1), deed, ("wait", 1), None])

    def test_it_is_refused_ahead_of_one_that_can_not_be_done(self):
        road = gone(*START)
        self.refused(road, 1, [("say", 5), None])
        self.refused(road, 2, [("wait", 100), ("wait", None), ("wait",)])
        self.refused(road, 4, GOOD + [("leave", 77), ("go", 1)])


class Halts(unittest.TestCase):
    def halted(self, road, number, done, deeds, **keeping):
        handed = copy.deepcopy(deeds)
        with self.subTest(deeds=deeds, keeping=keeping):
            with self.assertRaises(RoadError) as caught:
                road.batch(deeds, **keeping)
            self.assertIs(type(caught.exception), Halted)
            self.assertEqual(vars(caught.exception), {"number": number, "done": done})
            self.assertEqual(repr(deeds), repr(handed))

    def test_at_its_first_deed(self):
        for keeping in ({}, {"keep": True}, {"keep": False}):
            for deeds in ([("say", 1)], [("leave", 1)], [("wait", 0)] + GOOD):
                road = gone(*START)
                self.halted(road, 0, 0, deeds, **keeping)
                self.assertEqual(seen(road), seen(gone(*START)))
                road.back()
                self.assertEqual(road.deeds(), START[:1])

    def test_all_ahead_of_it_stand_if_they_are_kept(self):
        for keeping in ({}, {"keep": True}):
            for many in range(len(GOOD) + 1):
                road = gone(*START)
                self.halted(road, many, many, GOOD[:many] + [("say", 1)] + GOOD[many:], **keeping)
                self.assertEqual(seen(road), seen(gone(*START, *GOOD[:many])))

    def test_back_behind_one_that_halted_and_was_kept(self):
        road = gone(*START)
        self.halted(road, 3, 3, GOOD + [("say", 1)])
        for many in (2, 1, 0):
            road.back()
            self.assertEqual(seen(road), seen(gone(*START, *GOOD[:many])))
        road.back()
        self.assertEqual(road.deeds(), START[:1])

    def test_none_stand_if_they_are_not_kept(self):
        for many in range(len(GOOD) + 1):
            road = gone(*START)
            self.halted(road, many, 0, GOOD[:many] + [("say", 1)] + GOOD[many:], keep=False)
            self.assertEqual(seen(road), seen(gone(*START)))

    def test_all_is_as_it_was_ahead(self):
        road = gone(("come", 1, 1), ("come", 2, 2), ("wait", 1))
        before = seen(road)
        deeds = [("leave", 0), ("come", 5, 5), ("say", 4), ("turn", 1, 9), ("wait", 9), ("come", 6, 6), ("leave", 0)]
        self.halted(road, 6, 0, deeds, keep=False)
        self.assertEqual(seen(road), before)
        # The numbers that it gave were given back, and the rumour can be said again.
        road.do(("come", 7, 7))
        self.assertEqual(road.walkers(), {0: (2, 1), 1: (4, 2), 2: (7, 7)})
        self.assertEqual(road.do(("say", 7)), (7, 7))
        for _ in range(5):
            self.assertIs(road.back(), True)
        self.assertIs(road.back(), False)

    def test_what_is_done_ahead_in_the_batch_counts(self):
        road = Road()
        self.halted(road, 2, 2, [("come", 0, 1), ("leave", 0), ("turn", 0, 1)])
        self.halted(road, 1, 1, [("say", 4), ("say", 4)])
        self.halted(Road(), 8, 8, [("come", 0, 1)] * 9)
        self.halted(Road(), 8, 0, [("come", 0, 1)] * 9, keep=False)
        self.assertEqual(Road().batch([("come", 0, 1), ("turn", 0, 5), ("leave", 0)]), [None] * 3)

    def test_each_that_can_not_be_done(self):
        for deed in NEVER_DONE:
            road = gone(("come", 5, 1), ("come", 6, 0))
            before = seen(road)
            self.halted(road, 1, 0, [("wait", 2), deed, ("wait", 2)], keep=False)
            self.assertEqual(seen(road), before)
            self.halted(road, 1, 1, [("wait", 2), deed, ("wait", 2)])
            self.assertEqual(seen(road), seen(gone(("come", 5, 1), ("come", 6, 0), ("wait", 2))))

    def test_a_road_goes_on_behind_it(self):
        road = gone(*START)
        self.halted(road, 1, 1, [("wait", 3), ("wait", 0)])
        self.assertEqual(road.batch(GOOD[1:]), [(0, 3), (-1, 5)])
        self.assertEqual(seen(road), seen(gone(*START, *GOOD)))


if __name__ == "__main__":
    unittest.main()
