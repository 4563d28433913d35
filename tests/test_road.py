"""Promises [9] and [10], by examples worked out by hand."""

import unittest

from saidroad.errors import BadDeed, RoadError
from saidroad.road import Road

BAD_DEEDS = [
    None, True, False, 0, 1, "", "come", "say 5", [], ["say", 5], ["come", 0, 1], (), (("say", 5),), ("go", 1),
    ("come",), ("come", 0), ("come", 0, 1, 1), ("leave",), ("leave", 0, 0), ("turn",), ("turn", 0), ("turn", 0, 1, 1),
    ("say",), ("say", 5, 0), ("wait",), ("wait", 1, 1), ("Say", 5), ("say ", 5), (" say", 5), ("", 5), (None, 5),
    (5, "say"), (5, 5), (True, 5), (("say",), 5), (["say"], 5), ("back",), ("back", 1), ("batch", []),
    ("knowing",), ("stands",), ("walkers",), ("do", ("say", 5)), ("come", (0, 1)), ("turn", (0, 1)),
]
# What no road can have done, however it stands: walkers 0 and 1 are there.
BAD_THINGS = [None, True, False, "", "1", (), (1,), [], [1], (0, 1)]
NEVER_DONE = (
    [("come", place, 0) for place in BAD_THINGS + [100, -100, 10 ** 20]]
    + [("come", 0, pace) for pace in BAD_THINGS + [10, -10, 10 ** 20]]
    + [("leave", number) for number in BAD_THINGS + [-1, 2, 8, 10 ** 20]]
    + [("turn", number, 1) for number in BAD_THINGS + [-1, 2, 8, 10 ** 20]]
    + [("turn", 0, pace) for pace in BAD_THINGS + [10, -10, 10 ** 20]]
    + [("say", place) for place in BAD_THINGS + [100, -100, 10 ** 20]]
    + [("wait", many) for many in BAD_THINGS + [0, -1, 100, 10 ** 20]]
)


def gone(*deeds):
    """A road behind these deeds."""
    road = Road()
    for deed in deeds:
        road.do(deed)
    return road


def seen(road):
    """All that a road tells."""
    return (road.walkers(), road.knowing(), road.stands(), road.deeds())


class Beginning(unittest.TestCase):
    def test_a_new_road(self):
        self.assertEqual(seen(Road()), ({}, [], ((0, 1), None), []))
        self.assertIs(Road().back(), False)

    def test_each_road_goes_by_itself(self):
        one, other = Road(), Road()
        one.do(("come", 3, 1))
        one.do(("say", 3))
        one.do(("wait", 2))
        self.assertEqual(seen(other), ({}, [], ((0, 1), None), []))
        other.do(("come", 5, 0))
        self.assertEqual(one.walkers(), {0: (5, 1)})
        self.assertEqual(other.walkers(), {0: (5, 0)})


class Deeds(unittest.TestCase):
    def test_come(self):
        road = Road()
        self.assertIsNone(road.do(("come", 3, -2)))
        self.assertIsNone(road.do(("come", -99, 9)))
        self.assertIsNone(road.do(("come", 99, -9)))
        self.assertEqual(road.walkers(), {0: (3, -2), 1: (-99, 9), 2: (99, -9)})

    def test_numbers_are_given_once(self):
        road = gone(("come", 1, 1), ("come", 2, 2), ("leave", 1), ("come", 3, 3), ("leave", 0), ("come", 4, 4))
        self.assertEqual(road.walkers(), {2: (3, 3), 3: (4, 4)})
        road = gone(("come", 1, 1), ("leave", 0), ("come", 1, 1))
        self.assertEqual(road.walkers(), {1: (1, 1)})

    def test_a_ninth_who_is_there(self):
        road = gone(*[("come", place, 0) for place in range(8)])
        self.assertRaises(BadDeed, road.do, ("come", 8, 0))
        self.assertEqual(sorted(road.walkers()), list(range(8)))
        road.do(("leave", 3))
        road.do(("come", 8, 1))
        self.assertEqual(sorted(road.walkers()), [0, 1, 2, 4, 5, 6, 7, 8])
        self.assertRaises(BadDeed, road.do, ("come", 9, 0))
        road.do(("leave", 8))
        road.do(("come", 9, 2))
        self.assertEqual(road.walkers()[9], (9, 2))

    def test_more_than_eight_may_come_in_turn(self):
        road = Road()
        for number in range(30):
            road.do(("come", number, 0))
            road.do(("leave", number))
        road.do(("come", 0, 1))
        self.assertEqual(road.walkers(), {30: (0, 1)})

    def test_leave(self):
        road = gone(("come", 1, 1), ("come", 2, 2))
        self.assertIsNone(road.do(("leave", 0)))
        self.assertEqual(road.walkers(), {1: (2, 2)})
        self.assertRaises(BadDeed, road.do, ("leave", 0))
        self.assertRaises(BadDeed, road.do, ("turn", 0, 1))

    def test_turn(self):
        road = gone(("come", 1, 1), ("come", 2, 2), ("wait", 3))
        self.assertIsNone(road.do(("turn", 0, -9)))
        self.assertEqual(road.walkers(), {0: (4, -9), 1: (8, 2)})
        road.do(("wait", 1))
        self.assertEqual(road.walkers(), {0: (-5, -9), 1: (10, 2)})
        road.do(("turn", 1, 0))
        road.do(("wait", 99))
        self.assertEqual(road.walkers(), {0: (-896, -9), 1: (10, 0)})

    def test_a_turn_to_the_pace_that_one_has(self):
        road = gone(("come", 1, 1), ("turn", 0, 1), ("wait", 1))
        self.assertEqual(road.walkers(), {0: (2, 1)})
        self.assertEqual(len(road.deeds()), 3)

    def test_say(self):
        road = Road()
        self.assertEqual(road.do(("say", -99)), (-99, -99))
        self.assertEqual(road.stands(), ((0, 1), (-99, -99)))
        self.assertEqual(gone(("wait", 4)).do(("say", 99)), (99, 99))

    def test_say_only_if_nothing_is_known(self):
        road = gone(("come", 0, 1), ("say", 0))
        self.assertRaises(BadDeed, road.do, ("say", 0))
        self.assertRaises(BadDeed, road.do, ("say", 5))
        road.do(("leave", 0))
        self.assertRaises(BadDeed, road.do, ("say", 5))
        road.back()
        road.back()
        self.assertEqual(road.do(("say", 5)), (5, 5))

    def test_wait(self):
        road = Road()
        self.assertIsNone(road.do(("wait", 1)))
        self.assertEqual(road.stands(), ((1, 1), None))
        road.do(("wait", 99))
        self.assertEqual(road.stands(), ((100, 1), None))
        road.do(("say", 2))
        self.assertEqual(road.do(("wait", 2)), (2, 2))
        self.assertEqual(road.stands(), ((102, 1), (2, 2)))

    def test_places_have_no_end(self):
        road = gone(("come", 99, 9), ("come", -99, -9), ("say", 99))
        for _ in range(200):
            road.do(("wait", 99))
        self.assertEqual(road.walkers(), {0: (178299, 9), 1: (-178299, -9)})
        self.assertEqual(road.stands(), ((19800, 1), (99, 178299)))
        road.do(("turn", 0, -9))
        self.assertEqual(road.do(("wait", 1)), (99, 178299))

    def test_deeds_are_told_in_turn(self):
        deeds = [("come", 1, 1), ("wait", 2), ("say", 3), ("turn", 0, 0), ("wait", 2), ("leave", 0)]
        self.assertEqual(gone(*deeds).deeds(), deeds)


class Refused(unittest.TestCase):
    def refused(self, road, deed):
        before = seen(road)
        with self.subTest(deed=deed):
            with self.assertRaises(RoadError) as caught:
                road.do(deed)
            self.assertIs(type(caught.exception), BadDeed)
            self.assertEqual(vars(caught.exception), {"number": 0})
            self.assertEqual(seen(road), before)

    def test_what_is_no_deed(self):
        for road in (Road(), gone(("come", 5, 1), ("say", 5), ("wait", 2))):
            for deed in BAD_DEEDS:
                self.refused(road, deed)

    def test_what_can_not_be_done(self):
        silent = gone(("come", 5, 1), ("come", 6, 0))
        for deed in NEVER_DONE:
            self.refused(silent, deed)
        self.assertEqual(silent.do(("say", 5)), (5, 5))
        for deed in NEVER_DONE:
            self.refused(silent, deed)

    def test_nobody_is_there(self):
        for deed in (("leave", 0), ("turn", 0, 1), ("leave", -1), ("turn", -1, 1), ("leave", False)):
            self.refused(Road(), deed)

    def test_a_coming_that_is_refused_gives_no_number(self):
        road = gone(("come", 5, 1))
        self.refused(road, ("come", 5, 10))
        road.do(("come", 6, 1))
        self.assertEqual(road.walkers(), {0: (5, 1), 1: (6, 1)})

    def test_limits_can_be_done(self):
        for deed in (("come", 99, 9), ("come", -99, -9), ("say", 99), ("say", -99), ("wait", 1), ("wait", 99)):
            self.assertEqual(gone(deed).deeds(), [deed])
        for pace in (9, -9):
            self.assertEqual(gone(("come", 0, 0), ("turn", 0, pace)).walkers(), {0: (0, pace)})


class Spreading(unittest.TestCase):
    def test_who_stands_where_it_is_said_knows(self):
        road = gone(("come", 5, 0), ("come", 6, 0), ("come", 5, 3))
        self.assertEqual(road.knowing(), [])
        road.do(("say", 5))
        self.assertEqual(road.knowing(), [0, 2])

    def test_who_comes_to_where_it_is_known_knows(self):
        road = gone(("come", 0, 2), ("say", 0), ("wait", 3))
        for place in (-1, 0, 3, 6, 7):
            road.do(("come", place, 0))
        self.assertEqual(road.stands(), ((3, 1), (0, 6)))
        self.assertEqual(road.knowing(), [0, 2, 3, 4])

    def test_the_ends_are_driven(self):
        road = gone(("come", 0, 1), ("come", -5, 3), ("come", 4, -1), ("come", 10, 1), ("come", 6, 0), ("say", 0))
        told = [road.do(("wait", 1)) for _ in range(9)]
        self.assertEqual(told, [(0, 1), (0, 2), (0, 4), (0, 7), (-1, 10), (-2, 13), (-3, 16), (-4, 19), (-5, 22)])
        self.assertEqual(road.knowing(), [0, 1, 2, 3, 4])

    def test_who_knows_behind_each_wait(self):
        road = gone(("come", 0, 1), ("come", -5, 3), ("come", 4, -1), ("come", 10, 1), ("come", 6, 0), ("say", 0))
        told = []
        for _ in range(8):
            told.append(road.knowing())
            road.do(("wait", 1))
        self.assertEqual(told, [[0], [0], [0, 1, 2], [0, 1, 2], [0, 1, 2, 4], [0, 1, 2, 4], [0, 1, 2, 4], [0, 1, 2, 4]])
        self.assertEqual(road.knowing(), [0, 1, 2, 3, 4])

    def test_one_long_wait_is_as_many_short_ones(self):
        deeds = [("come", 0, 1), ("come", -5, 3), ("come", 4, -1), ("come", 10, 1), ("come", 6, 0), ("say", 0)]
        for many in (1, 2, 3, 5, 50, 99):
            long, short = gone(*deeds, ("wait", many)), gone(*deeds, *[("wait", 1)] * many)
            self.assertEqual(seen(long)[:3], seen(short)[:3])

    def test_what_happens_between_whole_times(self):
        # They meet at 4/3; two drives the left end from 2 on.
        road = gone(("come", 0, 1), ("come", 4, -2), ("say", 0))
        self.assertEqual([road.do(("wait", 1)) for _ in range(4)], [(0, 1), (0, 2), (-2, 3), (-4, 4)])
        self.assertEqual(road.knowing(), [0, 1])

    def test_one_comes_in_and_leaves_by_the_other_end_within_a_wait(self):
        road = gone(("come", 9, -9), ("say", 1))
        self.assertEqual(road.do(("wait", 1)), (0, 1))
        self.assertEqual(road.do(("wait", 1)), (-9, 1))
        road = gone(("come", 0, 1), ("say", 0), ("wait", 3), ("come", 8, -9))
        self.assertEqual(road.do(("wait", 1)), (-1, 4))

    def test_a_walker_who_leaves_at_an_end(self):
        road = gone(("come", 0, 2), ("come", 7, 0), ("come", 0, 1), ("say", 0), ("wait", 3))
        self.assertEqual(road.do(("leave", 0)), (0, 6))
        self.assertEqual(road.knowing(), [2])
        # What it told stays; three, at 3 now, comes to the end at 6 and then goes on with it.
        self.assertEqual([road.do(("wait", 1)) for _ in range(5)], [(0, 6), (0, 6), (0, 6), (0, 7), (0, 8)])
        self.assertEqual(road.knowing(), [1, 2])

    def test_what_is_known_stays_when_all_have_left(self):
        road = gone(("come", 0, 2), ("say", 0), ("wait", 3), ("leave", 0))
        self.assertEqual(road.do(("wait", 9)), (0, 6))
        self.assertEqual(road.knowing(), [])
        self.assertEqual(road.do(("come", 6, 1)), (0, 6))
        self.assertEqual(road.knowing(), [1])
        self.assertEqual(road.do(("wait", 1)), (0, 7))

    def test_a_turn_at_an_end(self):
        road = gone(("come", 0, 2), ("say", 0), ("wait", 3))
        self.assertEqual(road.do(("turn", 0, -1)), (0, 6))
        self.assertEqual(road.do(("wait", 6)), (0, 6))
        self.assertEqual(road.do(("wait", 1)), (-1, 6))
        self.assertEqual(road.do(("turn", 0, 5)), (-1, 6))
        self.assertEqual(road.do(("wait", 2)), (-1, 9))

    def test_a_turn_to_another_pace_the_same_way(self):
        road = gone(("come", 0, 2), ("come", 0, 1), ("say", 0), ("wait", 3))
        road.do(("turn", 0, 0))
        self.assertEqual(road.do(("wait", 2)), (0, 6))
        road.do(("turn", 1, 9))
        self.assertEqual(road.do(("wait", 1)), (0, 14))

    def test_a_turn_of_one_who_does_not_know(self):
        # It would have been met at 5; it goes away as quickly, till it is turned once more.
        road = gone(("come", 0, 1), ("come", 10, -1), ("say", 0), ("wait", 4), ("turn", 1, 1), ("wait", 50))
        self.assertEqual(road.knowing(), [0])
        road.do(("turn", 1, 0))
        road.do(("wait", 1))
        self.assertEqual(road.knowing(), [0])
        road.do(("wait", 1))
        self.assertEqual(road.knowing(), [0, 1])

    def test_one_who_comes_in_from_the_left(self):
        road = gone(("come", -6, 2), ("say", 0))
        self.assertEqual([road.do(("wait", 1)) for _ in range(4)], [(0, 0), (0, 0), (0, 0), (0, 2)])
        road = gone(("come", -6, 2), ("come", 0, -1), ("say", 0), ("wait", 1))
        self.assertEqual(road.knowing(), [1])
        self.assertEqual(road.do(("wait", 1)), (-2, 0))
        self.assertEqual(road.knowing(), [0, 1])

    def test_it_is_said_only_after_some_time(self):
        road = gone(("come", 0, 1), ("come", 8, -1), ("wait", 3))
        self.assertEqual(road.do(("say", 4)), (4, 4))
        self.assertEqual(road.knowing(), [])
        self.assertEqual(road.do(("wait", 1)), (4, 4))
        self.assertEqual(road.knowing(), [0, 1])
        self.assertEqual(road.do(("wait", 1)), (3, 5))

    def test_nothing_is_known_however_long_one_waits(self):
        road = gone(("come", 0, 1), ("come", 8, -1), ("wait", 99))
        self.assertEqual(road.knowing(), [])
        self.assertEqual(road.stands(), ((99, 1), None))


class Back(unittest.TestCase):
    DEEDS = [
        ("come", 0, 1), ("come", 5, -2), ("wait", 1), ("say", 3), ("come", 3, 0), ("wait", 2), ("turn", 1, 3),
        ("wait", 99), ("leave", 0), ("come", -20, 9), ("wait", 7), ("leave", 3), ("come", 0, 0), ("leave", 2),
    ]

    def test_back_over_all_of_them(self):
        road = Road()
        pictures = []
        for deed in self.DEEDS:
            pictures.append(seen(road))
            road.do(deed)
        for picture in reversed(pictures):
            self.assertIs(road.back(), True)
            self.assertEqual(seen(road), picture)
        self.assertIs(road.back(), False)
        self.assertIs(road.back(), False)
        self.assertEqual(seen(road), seen(Road()))

    def test_there_and_back_and_there_again(self):
        road = gone(*self.DEEDS)
        behind = seen(road)
        for many in range(len(self.DEEDS) + 1):
            for _ in range(many):
                self.assertIs(road.back(), True)
            for deed in self.DEEDS[len(self.DEEDS) - many:]:
                road.do(deed)
            self.assertEqual(seen(road), behind)

    def test_a_number_that_was_given_back(self):
        road = gone(("come", 0, 1), ("come", 1, 1))
        road.back()
        road.do(("come", 7, 7))
        self.assertEqual(road.walkers(), {0: (0, 1), 1: (7, 7)})
        road.back()
        road.back()
        road.do(("come", 8, 8))
        self.assertEqual(road.walkers(), {0: (8, 8)})

    def test_a_leaving_taken_back_gives_no_number_anew(self):
        road = gone(("come", 0, 1), ("leave", 0))
        road.back()
        self.assertEqual(road.walkers(), {0: (0, 1)})
        road.do(("come", 5, 1))
        self.assertEqual(road.walkers(), {0: (0, 1), 1: (5, 1)})

    def test_one_who_left_is_there_again_where_it_was(self):
        road = gone(("come", 0, 1), ("say", 0), ("wait", 4), ("leave", 0))
        road.back()
        self.assertEqual(road.walkers(), {0: (4, 1)})
        self.assertEqual(road.knowing(), [0])

    def test_what_was_refused_is_no_deed_to_take_back(self):
        road = gone(("come", 0, 1))
        for deed in (("say", 100), ("leave", 7), None, ("wait", 0)):
            self.assertRaises(BadDeed, road.do, deed)
        self.assertIs(road.back(), True)
        self.assertIs(road.back(), False)

    def test_asking_is_no_deed_to_take_back(self):
        road = gone(("come", 0, 1), ("say", 0))
        seen(road)
        road.back()
        self.assertEqual(road.deeds(), [("come", 0, 1)])


if __name__ == "__main__":
    unittest.main()
