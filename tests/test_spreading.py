"""Promises [2] to [5] and the first sentence of [7], by examples worked out by hand."""

import unittest

from saidroad.spreading import drivers, known, learnt, starts, stretch, tellers

# One goes right from the start; two, coming from behind it, overtakes it at 5/2;
# three comes towards it and drives the left end from 4 on; four and five are reached.
MANY = ((0, 1), (-5, 3), (4, -1), (10, 1), (6, 0))

# One drives the left end till two, who comes in at the right, overtakes it at 3, at the point -3,
# where three stands and four comes to at that time.
HANDED = ((0, -1), (6, -3), (-3, 0), (-6, 1))

# All are at 0 at time 2, ahead of which 0 alone is known.
GATHERED = ((-2, 1), (2, -1), (-4, 2), (-2, 1), (4, -2), (-4, 2), (4, -2))


class NoWalkers(unittest.TestCase):
    def test_the_start_alone_is_known_for_ever(self):
        for time in ((0, 1), (0, 7), (5, 2), (99999, 1)):
            self.assertEqual(stretch((), -7, time), ((-7, 1), (-7, 1)))
        self.assertEqual(known((), -7, -7), (0, 1))
        self.assertIsNone(known((), -7, -6))

    def test_nobody_learns_or_drives(self):
        self.assertEqual(learnt((), 5), [])
        self.assertEqual(tellers((), 5), [])
        self.assertEqual(drivers((), 5), ([], []))


class Stretch(unittest.TestCase):
    def test_at_time_0_the_start_alone_is_known(self):
        for walkers in (MANY, HANDED, GATHERED):
            for start in (-99, -3, 0, 4, 99):
                self.assertEqual(stretch(walkers, start, (0, 1)), ((start, 1), (start, 1)))
                self.assertEqual(stretch(walkers, start, (0, 999)), ((start, 1), (start, 1)))

    def test_it_grows_as_its_ends_are_driven(self):
        self.assertEqual(stretch(MANY, 0, (2, 1)), ((0, 1), (2, 1)))
        self.assertEqual(stretch(MANY, 0, (5, 2)), ((0, 1), (5, 2)))
        self.assertEqual(stretch(MANY, 0, (3, 1)), ((0, 1), (4, 1)))
        self.assertEqual(stretch(MANY, 0, (4, 1)), ((0, 1), (7, 1)))
        self.assertEqual(stretch(MANY, 0, (9, 1)), ((-5, 1), (22, 1)))

    def test_times_that_are_not_whole(self):
        self.assertEqual(stretch(MANY, 0, (1, 3)), ((0, 1), (1, 3)))
        self.assertEqual(stretch(MANY, 0, (31, 7)), ((-3, 7), (58, 7)))

    def test_times_in_other_terms(self):
        self.assertEqual(stretch(MANY, 0, (10, 30)), ((0, 1), (1, 3)))
        self.assertEqual(stretch(MANY, 0, (62, 14)), ((-3, 7), (58, 7)))
        self.assertEqual(stretch(MANY, 0, (900, 100)), ((-5, 1), (22, 1)))

    def test_it_is_told_in_lowest_terms(self):
        self.assertEqual(stretch(((0, 2),), 0, (5, 4)), ((0, 1), (5, 2)))
        self.assertEqual(stretch(((0, -2),), 0, (5, 4)), ((-5, 2), (0, 1)))

    def test_it_is_one_point_till_one_comes(self):
        self.assertEqual(stretch(GATHERED, 0, (2, 1)), ((0, 1), (0, 1)))
        self.assertEqual(stretch(GATHERED, 0, (1997, 999)), ((0, 1), (0, 1)))
        self.assertEqual(stretch(GATHERED, 0, (1999, 999)), ((-2, 999), (2, 999)))
        self.assertEqual(stretch(GATHERED, 0, (5, 2)), ((-1, 1), (1, 1)))

    def test_it_stays_one_point_if_none_comes(self):
        walkers = ((5, 0), (7, 2), (-1, -1))
        self.assertEqual(stretch(walkers, 5, (99999, 1)), ((5, 1), (5, 1)))
        self.assertEqual(stretch(walkers, 6, (99999, 1)), ((6, 1), (6, 1)))

    def test_the_last_time_of_all(self):
        self.assertEqual(stretch(((0, 9), (0, -9)), 0, (99999, 1)), ((-899991, 1), (899991, 1)))
        self.assertEqual(stretch(((0, 9),), 0, (99999, 998)), ((0, 1), (899991, 998)))


class Known(unittest.TestCase):
    def test_when_an_end_is_there(self):
        self.assertEqual(known(MANY, 0, 1), (1, 1))
        self.assertEqual(known(MANY, 0, 2), (2, 1))
        self.assertEqual(known(MANY, 0, 3), (8, 3))
        self.assertEqual(known(MANY, 0, 6), (11, 3))
        self.assertEqual(known(MANY, 0, 99), (104, 3))

    def test_behind_an_end_that_stood(self):
        self.assertEqual(known(MANY, 0, -1), (5, 1))
        self.assertEqual(known(MANY, 0, -99), (103, 1))

    def test_the_start_knows_at_time_0(self):
        for start in (-99, 0, 6, 99):
            self.assertEqual(known(MANY, start, start), (0, 1))

    def test_a_place_that_is_never_known(self):
        self.assertIsNone(known(((0, 1), (6, 0)), 0, -1))
        self.assertIsNone(known(((0, -1), (6, 0)), 0, 6))
        self.assertIsNone(known(((0, 1), (6, 0)), 6, 5))
        self.assertIsNone(known(((5, 0),), 5, 6))

    def test_a_place_passed_by_one_who_did_not_know_yet(self):
        # The walker is at -3 at time 2, and learns at 0, at time 5.
        self.assertIsNone(known(((-5, 1),), 0, -3))
        self.assertEqual(known(((-5, 1),), 0, 2), (7, 1))

    def test_a_place_at_which_one_stands(self):
        self.assertEqual(known(((4, 0), (0, 3)), 0, 4), (4, 3))

    def test_a_place_at_which_one_learns(self):
        # They meet at 2, at time 1, and the second turns nobody back.
        self.assertEqual(known(((0, 2), (3, -1)), 0, 2), (1, 1))


class Learnt(unittest.TestCase):
    def test_each_at_its_time(self):
        self.assertEqual(learnt(MANY, 0), [(0, 1), (5, 3), (2, 1), (15, 2), (11, 3)])
        self.assertEqual(learnt(HANDED, 0), [(0, 1), (2, 1), (3, 1), (3, 1)])
        self.assertEqual(learnt(GATHERED, 0), [(2, 1)] * 7)

    def test_all_at_the_start_know_at_time_0_whatever_their_paces(self):
        self.assertEqual(learnt(((3, 0), (3, 9), (3, -9), (3, 0)), 3), [(0, 1)] * 4)

    def test_who_is_never_reached_never_knows(self):
        self.assertEqual(learnt(((0, 1), (3, 1)), 0), [(0, 1), None])
        self.assertEqual(learnt(((0, 1), (3, 2)), 0), [(0, 1), None])
        self.assertEqual(learnt(((0, -1), (3, 0)), 0), [(0, 1), None])
        self.assertEqual(learnt(((0, 0), (-3, 0), (-1, -1)), 0), [(0, 1), None, None])

    def test_who_goes_away_is_overtaken_by_a_quicker_one(self):
        self.assertEqual(learnt(((0, 2), (3, 1)), 0), [(0, 1), (3, 1)])
        self.assertEqual(learnt(((0, -9), (-97, -8)), 0), [(0, 1), (97, 1)])

    def test_no_walker_needs_to_be_at_the_start(self):
        self.assertEqual(learnt(((5, -2), (6, 0)), 2), [(3, 2), None])
        self.assertEqual(learnt(((5, -2), (-6, 1), (-9, 0)), 2), [(3, 2), (11, 3), (7, 1)])

    def test_walkers_at_one_place(self):
        self.assertEqual(learnt(((0, 1), (4, 0), (4, 0), (4, -1), (4, 1)), 0), [(0, 1), (4, 1), (4, 1), (2, 1), None])


class Drivers(unittest.TestCase):
    def test_who_drives_and_from_when_on(self):
        self.assertEqual(drivers(MANY, 0), ([((4, 1), 2)], [((0, 1), 0), ((5, 2), 1)]))
        self.assertEqual(drivers(HANDED, 0), ([((0, 1), 0), ((3, 1), 1)], [((6, 1), 3)]))

    def test_ends_that_stand(self):
        self.assertEqual(drivers(((0, 0), (5, 0), (7, 1)), 0), ([], []))
        self.assertEqual(drivers(((0, 1),), 0), ([], [((0, 1), 0)]))
        self.assertEqual(drivers(((0, -1),), 0), ([((0, 1), 0)], []))
        self.assertEqual(drivers(((0, 1),), 1), ([], [((1, 1), 0)]))

    def test_of_several_at_time_0_the_quickest_drives(self):
        self.assertEqual(
            drivers(((0, 1), (0, 3), (0, 2), (0, -1), (0, -2), (0, 0)), 0), ([((0, 1), 4)], [((0, 1), 1)])
        )

    def test_of_like_ones_the_first_drives_and_goes_on(self):
        self.assertEqual(
            drivers(((0, 1), (0, 3), (0, 3), (0, -2), (0, -2)), 0), ([((0, 1), 3)], [((0, 1), 1)])
        )

    def test_several_come_to_a_point_at_one_time(self):
        self.assertEqual(drivers(GATHERED, 0), ([((2, 1), 4)], [((2, 1), 2)]))

    def test_several_overtake_at_one_time(self):
        # All are at 2 at time 2: the third and fourth are the quickest of them.
        walkers = ((0, 1), (-2, 2), (-4, 3), (-4, 3))
        self.assertEqual(drivers(walkers, 0), ([], [((0, 1), 0), ((2, 1), 2)]))
        mirrored = tuple((-place, -pace) for place, pace in walkers)
        self.assertEqual(drivers(mirrored, 0), ([((0, 1), 0), ((2, 1), 2)], []))

    def test_who_is_overtaken_does_not_drive_again(self):
        walkers = ((0, 1), (-1, 2), (-10, 4))
        self.assertEqual(drivers(walkers, 0), ([], [((0, 1), 0), ((1, 1), 1), ((9, 2), 2)]))

    def test_one_as_quick_as_the_driver_does_not_drive(self):
        self.assertEqual(drivers(((0, 2), (-2, 2), (4, 2)), 0), ([], [((0, 1), 0)]))

    def test_one_ahead_who_does_not_know_does_not_drive(self):
        self.assertEqual(drivers(((0, 1), (2, 3)), 0), ([], [((0, 1), 0)]))

    def test_one_comes_in_at_one_end_and_drives_the_other(self):
        # In at 2, at the right end, at time 2; at -1, at the left end, at time 5.
        self.assertEqual(drivers(((0, 1), (4, -1), (-3, 0)), 0), ([((4, 1), 1)], [((0, 1), 0)]))


class Tellers(unittest.TestCase):
    def test_when_where_and_from_whom(self):
        self.assertEqual(tellers(MANY, 0), [
            ((0, 1), (0, 1), None),
            ((5, 3), (0, 1), None),
            ((2, 1), (2, 1), 0),
            ((15, 2), (35, 2), 1),
            ((11, 3), (6, 1), 1),
        ])

    def test_whom_is_who_drove_just_ahead_of_that_time(self):
        self.assertEqual(tellers(HANDED, 0), [
            ((0, 1), (0, 1), None),
            ((2, 1), (0, 1), None),
            ((3, 1), (-3, 1), 0),
            ((3, 1), (-3, 1), 0),
        ])

    def test_at_time_0_none_tells(self):
        self.assertEqual(tellers(((2, 5), (2, 0), (2, -5)), 2), [((0, 1), (2, 1), None)] * 3)

    def test_a_point_tells_without_a_driver(self):
        self.assertEqual(tellers(GATHERED, 0), [((2, 1), (0, 1), None)] * 7)

    def test_an_end_that_stood_tells_without_a_driver(self):
        self.assertEqual(tellers(((0, 1), (-3, 1)), 0)[1], ((3, 1), (0, 1), None))
        self.assertEqual(tellers(((0, -1), (3, -1)), 0)[1], ((3, 1), (0, 1), None))

    def test_one_who_takes_an_end_tells_the_next(self):
        self.assertEqual(tellers(((6, -3), (-3, 0)), 0), [((2, 1), (0, 1), None), ((3, 1), (-3, 1), 0)])

    def test_one_who_never_knows(self):
        self.assertEqual(tellers(((0, 1), (3, 1), (-1, 0)), 0), [((0, 1), (0, 1), None), None, None])

    def test_of_like_drivers_the_first_tells(self):
        self.assertEqual(tellers(((5, 0), (0, 2), (0, 2), (0, 1)), 0)[0], ((5, 2), (5, 1), 1))


class Starts(unittest.TestCase):
    CROSSING = ((5, -2), (-5, 2))

    def test_each_start_between_two_who_cross(self):
        self.assertEqual(starts(self.CROSSING, (10, 1), (-15, 1), (15, 1)), list(range(-5, 6)))

    def test_the_outermost_starts_that_fit(self):
        # Two comes from 4 to -5 just then, and one sets out at -5.
        self.assertEqual(starts(MANY, (9, 1), (-5, 1), (22, 1)), list(range(-5, 5)))

    def test_just_one_start(self):
        self.assertEqual(starts(self.CROSSING, (10, 1), (-15, 1), (-7, 1)), [-7])
        self.assertEqual(starts(HANDED, (3, 1), (-3, 1), (0, 1)), [0])

    def test_times_and_points_in_other_terms(self):
        self.assertEqual(starts(MANY, (62, 14), (-6, 14), (580, 70)), starts(MANY, (31, 7), (-3, 7), (58, 7)))
        self.assertIn(0, starts(MANY, (62, 14), (-6, 14), (580, 70)))

    def test_at_time_0_only_a_whole_point_fits(self):
        self.assertEqual(starts(MANY, (0, 1), (4, 1), (4, 1)), [4])
        self.assertEqual(starts(MANY, (0, 5), (8, 2), (12, 3)), [4])
        self.assertEqual(starts(MANY, (0, 1), (9, 2), (9, 2)), [])
        self.assertEqual(starts(MANY, (0, 1), (4, 1), (5, 1)), [])

    def test_no_walkers(self):
        for start in (-99, -1, 0, 99):
            self.assertEqual(starts((), (3, 2), (start, 1), (2 * start, 2)), [start])
        self.assertEqual(starts((), (3, 2), (0, 1), (1, 1)), [])

    def test_no_start_fits(self):
        self.assertEqual(starts(self.CROSSING, (10, 1), (-15, 1), (16, 1)), [])
        self.assertEqual(starts(self.CROSSING, (10, 1), (-29, 2), (15, 1)), [])
        self.assertEqual(starts(self.CROSSING, (10, 1), (15, 1), (-15, 1)), [])
        self.assertEqual(starts(self.CROSSING, (10, 1), (0, 1), (0, 1)), [])
        self.assertEqual(starts(MANY, (10, 1), (-99999, 1), (99999, 1)), [])

    def test_starts_are_places_that_can_be_handed_in(self):
        self.assertEqual(starts((), (1, 1), (100, 1), (100, 1)), [])
        self.assertEqual(starts((), (1, 1), (-100, 1), (-100, 1)), [])
        self.assertEqual(starts(((99, 1),), (9, 1), (99, 1), (108, 1)), [99])
        self.assertEqual(starts(((-99, -1),), (9, 1), (-108, 1), (-99, 1)), [-99])


if __name__ == "__main__":
    unittest.main()
