"""Promise [8], by examples worked out by hand."""

import copy
import unittest

from saidroad.asking import chain, judged
from saidroad.errors import BadChain, BadPlace, NeverKnown, RoadError
from saidroad.spreading import known

# One goes right from 0; two comes from 9 and meets it at 9/2, though it's at 3, where one was at 3, at 6;
# three stands at 3; four comes to 0 at 2.
WALKERS = ((0, 1), (9, -1), (3, 0), (-4, 2))
GOING = (0, (0, 1), (3, 1))

BAD_LEGS = [
    None, True, 0, "", "abc", "012", [], (), (0,), (0, (0, 1)), (0, (0, 1), (0, 1), 0), [0, (0, 1), (0, 1)],
    (4, (0, 1), (0, 1)), (-1, (0, 1), (0, 1)), (True, (0, 1), (0, 1)), (False, (0, 1), (0, 1)),
    (None, (0, 1), (0, 1)), ("0", (0, 1), (0, 1)), ((0,), (0, 1), (0, 1)), ([0], (0, 1), (0, 1)),
    (0, 0, 1), (0, (0, 1), 1), (0, 0, (0, 1)), (0, None, (0, 1)), (0, (0, 1), None), (0, True, (0, 1)),
    (0, [0, 1], (0, 1)), (0, (0, 1), [0, 1]), (0, "01", (0, 1)), (0, (0, 1), (0, 1, 1)), (0, (0,), (0, 1)),
    (0, (0, 0), (0, 1)), (0, (0, 1), (0, 0)), (0, (0, 1000), (0, 1)), (0, (0, 1), (0, 1000)),
    (0, (0, -1), (0, 1)), (0, (0, 1), (0, -1)), (0, (-1, 1), (0, 1)), (0, (0, 1), (-1, 1)),
    (0, (0, 1), (100000, 1)), (0, (0, True), (0, 1)), (0, (False, 1), (0, 1)), (0, (0, 1), (True, 1)),
    (0, (0, 1), (1, True)), (0, (0, 1), ("1", 1)), (0, (0, 1), (1, None)), (0, ((0, 1), 1), (0, 1)),
]


class Chains(unittest.TestCase):
    def bad(self, number, told, walkers=WALKERS, start=0, place=0):
        """The chain is refused for the leg of this number, and stays as it was."""
        before = copy.deepcopy(told)
        with self.subTest(told=told):
            with self.assertRaises(RoadError) as caught:
                judged(walkers, start, place, told)
            self.assertIs(type(caught.exception), BadChain)
            self.assertEqual(vars(caught.exception), {"number": number})
            self.assertEqual(repr(told), repr(before))


class OfNoLegs(Chains):
    def test_the_start_knows_at_time_0(self):
        self.assertEqual(judged(WALKERS, 3, 3, []), (0, 1))
        self.assertEqual(judged((), -99, -99, []), (0, 1))

    def test_no_other_place_knows(self):
        self.assertIsNone(judged(WALKERS, 3, 4, []))
        self.assertIsNone(judged((), 3, -3, []))


class OfOneLeg(Chains):
    def test_its_end_if_the_walker_is_there_then(self):
        self.assertEqual(judged(WALKERS, 0, 3, [GOING]), (3, 1))
        self.assertEqual(judged(WALKERS, 0, 6, [(3, (2, 1), (5, 1))]), (5, 1))
        self.assertEqual(judged(WALKERS, 3, 3, [(2, (0, 1), (99999, 1))]), (99999, 1))

    def test_none_if_it_is_elsewhere(self):
        self.assertIsNone(judged(WALKERS, 0, 2, [GOING]))
        self.assertIsNone(judged(WALKERS, 0, 4, [GOING]))
        self.assertIsNone(judged(WALKERS, 0, 0, [GOING]))
        self.assertIsNone(judged(WALKERS, 0, 3, [(0, (0, 1), (7, 2))]))
        self.assertIsNone(judged(WALKERS, 0, 3, [(0, (0, 1), (5, 2))]))

    def test_it_begins_where_its_walker_is_at_the_start(self):
        self.bad(0, [(0, (1, 1), (3, 1))])
        self.bad(0, [(0, (1, 999), (3, 1))])
        self.bad(0, [(3, (0, 1), (3, 1))])
        self.bad(0, [(3, (1, 1), (3, 1))])
        self.bad(0, [(3, (3, 1), (3, 1))])
        self.bad(0, [(2, (0, 1), (3, 1))])
        self.assertEqual(judged(WALKERS, 0, 0, [(3, (2, 1), (2, 1))]), (2, 1))

    def test_one_who_stands_at_the_start_can_begin_at_any_time(self):
        for begin in ((0, 1), (1, 3), (77, 1)):
            self.assertEqual(judged(WALKERS, 3, 3, [(2, begin, (77, 1))]), (77, 1))

    def test_the_start_may_be_come_to_between_whole_times(self):
        self.assertEqual(judged(((-1, 2), (0, 0)), 0, 2, [(0, (1, 2), (3, 2))]), (3, 2))
        self.assertEqual(judged(((1, -3), (0, 0)), 0, -1, [(0, (1, 3), (2, 3))]), (2, 3))

    def test_its_end_is_not_ahead_of_its_begin(self):
        self.bad(0, [(0, (0, 1), (-1, 1))])
        self.bad(0, [(3, (2, 1), (1, 1))])
        self.bad(0, [(3, (2, 1), (1997, 999))])
        self.assertEqual(judged(WALKERS, 0, 0, [(3, (2, 1), (2, 1))]), (2, 1))

    def test_times_in_other_terms(self):
        self.assertEqual(judged(WALKERS, 0, 3, [(0, (0, 9), (6, 2))]), (3, 1))
        self.assertEqual(judged(WALKERS, 0, 0, [(3, (6, 3), (4, 2))]), (2, 1))
        self.assertEqual(judged(WALKERS, 0, 0, [(3, (4, 2), (6, 3))]), (2, 1))
        self.assertEqual(judged(((0, 4),), 0, 6, [(0, (0, 1), (15, 10))]), (3, 2))

    def test_legs_that_are_none(self):
        for leg in BAD_LEGS:
            self.bad(0, [leg])
            self.bad(0, [leg, GOING])

    def test_the_outermost_times(self):
        self.assertIsNone(judged(WALKERS, 0, 0, [(0, (0, 999), (99999, 1))]))
        self.assertIsNone(judged(WALKERS, 0, 0, [(0, (0, 1), (99999, 999))]))
        self.assertIsNone(judged(((0, -9),), 0, 0, [(0, (0, 1), (99999, 998))]))


class OfMoreLegs(Chains):
    def test_legs_that_touch_at_one_time(self):
        self.assertEqual(judged(WALKERS, 0, 0, [(0, (0, 1), (9, 2)), (1, (9, 2), (9, 1))]), (9, 1))
        self.assertEqual(judged(WALKERS, 0, 3, [GOING, (2, (3, 1), (3, 1))]), (3, 1))
        self.assertEqual(judged(WALKERS, 0, 3, [(0, (0, 5), (9, 3)), (2, (12, 4), (8, 2))]), (4, 1))

    def test_a_leg_that_begins_ahead_of_the_end_of_the_one_ahead(self):
        self.assertEqual(judged(WALKERS, 0, 0, [(0, (0, 1), (50, 1)), (1, (9, 2), (9, 1))]), (9, 1))
        self.assertEqual(judged(WALKERS, 0, 3, [(0, (0, 1), (50, 1)), (2, (3, 1), (3, 1))]), (3, 1))

    def test_a_point_that_the_one_ahead_left_long_ago(self):
        # One was at 3 at 3, two is there at 6.
        self.assertEqual(judged(WALKERS, 0, 2, [GOING, (1, (6, 1), (7, 1))]), (7, 1))
        self.assertEqual(judged(WALKERS, 0, 2, [(0, (0, 1), (99, 1)), (1, (6, 1), (7, 1))]), (7, 1))
        self.assertEqual(judged(WALKERS, 0, 3, [GOING, (2, (88, 1), (90, 1))]), (90, 1))
        self.assertEqual(judged(WALKERS, 0, -1, [(0, (0, 1), (0, 1)), (1, (9, 1), (10, 1))]), (10, 1))

    def test_a_point_at_which_the_one_ahead_was_not_in_its_own_leg(self):
        self.bad(1, [(0, (0, 1), (2, 1)), (1, (6, 1), (7, 1))])
        self.bad(1, [(0, (0, 1), (2, 1)), (2, (3, 1), (7, 1))])
        self.bad(1, [(0, (0, 1), (2997, 999)), (1, (1493, 249), (7, 1))])
        # Four is at 0 at 2 and at 2 at 3; at -2 it was ahead of its leg.
        self.bad(1, [(3, (2, 1), (3, 1)), (1, (11, 1), (11, 1))])
        self.assertEqual(judged(WALKERS, 0, 2, [(3, (2, 1), (3, 1)), (1, (7, 1), (7, 1))]), (7, 1))

    def test_a_point_at_which_the_one_ahead_is_only_later(self):
        # One is at 5 at 5, two at 4; one is at 3 at 3, three always.
        self.bad(1, [(0, (0, 1), (9, 1)), (1, (4, 1), (9, 1))])
        self.bad(1, [(0, (0, 1), (9, 1)), (2, (0, 1), (9, 1))])
        self.bad(1, [(0, (0, 1), (9, 1)), (2, (2996, 999), (9, 1))])
        self.assertEqual(judged(WALKERS, 0, 3, [(0, (0, 1), (9, 1)), (2, (2997, 999), (9, 1))]), (9, 1))

    def test_behind_one_who_stands(self):
        standing = [GOING, (2, (4, 1), (5, 1))]
        self.assertEqual(judged(WALKERS, 0, 2, standing + [(1, (6, 1), (7, 1))]), (7, 1))
        self.bad(2, standing + [(1, (5, 1), (7, 1))])
        self.bad(2, [GOING, (2, (7, 1), (8, 1)), (1, (6, 1), (7, 1))])
        self.assertEqual(judged(WALKERS, 0, 2, [GOING, (2, (6, 1), (8, 1)), (1, (6, 1), (7, 1))]), (7, 1))
        self.assertEqual(judged(WALKERS, 0, 3, standing + [(2, (4, 1), (4, 1))]), (4, 1))
        self.bad(2, standing + [(2, (3, 1), (4, 1))])

    def test_behind_one_who_stands_at_a_point_between_places(self):
        walkers = ((0, 0), (1, -2), (-1, 2))
        self.assertEqual(judged(walkers, 0, -1, [(0, (0, 1), (0, 1)), (1, (1, 2), (1, 1))]), (1, 1))
        self.bad(1, [(0, (0, 1), (9, 1)), (1, (3, 4), (1, 1))], walkers)

    def test_one_walker_in_legs_side_by_side(self):
        self.assertEqual(judged(WALKERS, 0, 5, [GOING, (0, (3, 1), (5, 1))]), (5, 1))
        self.assertEqual(judged(WALKERS, 0, 5, [GOING, (0, (2, 1), (5, 1))]), (5, 1))
        self.assertEqual(judged(WALKERS, 0, 3, [GOING, (0, (0, 1), (3, 1)), (2, (3, 1), (3, 1))]), (3, 1))
        self.bad(1, [GOING, (0, (4, 1), (5, 1))])

    def test_a_point_between_places_where_they_meet(self):
        walkers = ((0, 2), (5, -3), (-5, 4))
        met = [(0, (0, 1), (1, 1)), (1, (1, 1), (2, 1))]
        self.assertEqual(judged(walkers, 0, -1, met), (2, 1))
        walkers = ((0, 2), (5, -2), (-99, 9))
        self.assertEqual(judged(walkers, 0, 2, [(0, (0, 1), (5, 4)), (1, (5, 4), (3, 2))]), (3, 2))
        self.bad(1, [(0, (0, 1), (5, 4)), (1, (1, 1), (3, 2))], walkers)
        self.bad(1, [(0, (0, 1), (6, 5)), (1, (5, 4), (3, 2))], walkers)
        self.bad(1, [(0, (0, 1), (5, 4)), (1, (1248, 999), (3, 2))], walkers)
        self.assertIsNone(judged(walkers, 0, 2, [(0, (0, 1), (5, 4)), (1, (1249, 999), (3, 1))]))

    def test_only_the_leg_just_ahead_counts(self):
        # Three stands where one was, in the leg ahead of that one.
        self.bad(2, [(0, (0, 1), (9, 2)), (1, (9, 2), (5, 1)), (2, (6, 1), (7, 1))])
        self.assertEqual(judged(WALKERS, 0, 3, [(0, (0, 1), (9, 2)), (1, (9, 2), (6, 1)), (2, (6, 1), (7, 1))]), (7, 1))

    def test_a_later_leg_is_behind_the_one_ahead_even_at_the_start(self):
        # Going begins at the start, but four was there only later.
        self.bad(1, [(3, (2, 1), (3, 1)), GOING])
        self.bad(0, [(2, (3, 1), (3, 1)), GOING])

    def test_the_first_leg_that_can_not_be(self):
        for leg in BAD_LEGS:
            self.bad(1, [GOING, leg])
            self.bad(1, [GOING, leg, None])
            self.bad(2, [GOING, (2, (3, 1), (3, 1)), leg, (9, 9, 9)])
        self.bad(0, [(0, (1, 1), (2, 1)), None])
        self.bad(1, [GOING, (1, (3, 1), (4, 1)), None])

    def test_many_legs(self):
        legs = [(0, (k, 1), (k + 1, 1)) for k in range(60)]
        self.assertEqual(judged(WALKERS, 0, 60, legs), (60, 1))
        self.bad(60, legs + [(0, (61, 1), (62, 1))])


class OfNoList(Chains):
    def test_it_is_refused(self):
        for told in (None, True, False, 0, 1, "", "said", (), (GOING,), ((),)):
            self.bad(0, told)
            self.bad(0, told, walkers=())
            self.bad(0, told, start=5, place=5)


class Chain(unittest.TestCase):
    def test_none_for_the_start(self):
        self.assertEqual(chain(WALKERS, 0, 0), [])
        self.assertEqual(chain(WALKERS, 3, 3), [])
        self.assertEqual(chain((), 7, 7), [])

    def test_by_one_carrier(self):
        self.assertEqual(chain(((0, 1),), 0, 5), [(0, (0, 1), (5, 1))])
        self.assertEqual(chain(((-1, 2),), 0, 5), [(0, (1, 2), (3, 1))])

    def test_leg_by_leg(self):
        walkers = ((0, 2), (5, -3), (-4, 0))
        self.assertEqual(chain(walkers, 0, -1), [(0, (0, 1), (1, 1)), (1, (1, 1), (2, 1))])
        self.assertEqual(judged(walkers, 0, -4, chain(walkers, 0, -4)), (3, 1))

    def test_each_place_knows_by_it_as_soon_as_it_does(self):
        for start in (-4, 0, 3, 9, 20):
            for place in range(-30, 31):
                time = known(WALKERS, start, place)
                if time is None:
                    self.assertRaises(NeverKnown, chain, WALKERS, start, place)
                else:
                    self.assertEqual(judged(WALKERS, start, place, chain(WALKERS, start, place)), time)

    def test_a_place_that_never_knows(self):
        for walkers, start, place in (((), 0, 1), (((0, 1),), 0, -1), (((5, 0),), 0, 5), (WALKERS, 99, 98)):
            with self.assertRaises(RoadError) as caught:
                chain(walkers, start, place)
            self.assertIs(type(caught.exception), NeverKnown)

    def test_the_place_is_refused_ahead_of_that(self):
        self.assertRaises(BadPlace, chain, (), 0, 100)
        self.assertRaises(BadPlace, chain, (), 100, 0)


if __name__ == "__main__":
    unittest.main()
