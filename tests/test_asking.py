"""Promises [6] and [7], by examples worked out by hand."""

import unittest

from saidroad.asking import first, lean, paces, spare

# One goes right from the start; two overtakes it at 5/2; three comes in and drives the left end from 4 on;
# four and five are reached, but drive no end.
MANY = ((0, 1), (-5, 3), (4, -1), (10, 1), (6, 0))
ALL = list(range(-9, 10))


class Spare(unittest.TestCase):
    def test_those_who_drive_no_end(self):
        self.assertEqual(spare(MANY, 0), [3, 4])

    def test_the_start_matters(self):
        # From 6 on, where five stands: one comes in at 6, two at 11/3, and three goes away from it to the left.
        self.assertEqual(spare(MANY, 6), [0, 2, 3, 4])
        self.assertEqual(spare(MANY, 99), [0, 2, 3, 4])
        self.assertEqual(spare(MANY, -99), [0, 1, 3, 4])

    def test_no_walkers(self):
        self.assertEqual(spare((), 0), [])

    def test_all_are_spare_where_nothing_goes_on(self):
        self.assertEqual(spare(((3, 1), (0, 0), (-5, -2), (7, 0)), 0), [0, 1, 2, 3])

    def test_one_alone(self):
        self.assertEqual(spare(((4, 0),), 4), [0])
        self.assertEqual(spare(((4, 1),), 4), [])
        self.assertEqual(spare(((4, 1),), 5), [])
        self.assertEqual(spare(((4, 1),), 3), [0])

    def test_each_of_twins_is_spare(self):
        self.assertEqual(spare(((0, 1), (0, 1)), 0), [0, 1])
        self.assertEqual(spare(((0, 1), (5, 2), (0, 1), (0, 1)), 0), [0, 1, 2, 3])
        self.assertEqual(spare(((0, -2), (0, 1), (0, -2)), 0), [0, 2])

    def test_no_twins_are_those_at_one_place_or_at_one_pace(self):
        self.assertEqual(spare(((0, 1), (0, -1)), 0), [])
        self.assertEqual(spare(((0, 1), (0, 2)), 0), [0])
        self.assertEqual(spare(((0, 1), (-1, 1)), 0), [1])
        self.assertEqual(spare(((-1, 1), (0, 1)), 0), [0])

    def test_a_short_drive_makes_one_needed(self):
        # The second overtakes the first at 1/9, or late, at 99.
        self.assertEqual(spare(((0, 1), (-1, 9)), 0), [])
        self.assertEqual(spare(((0, 8), (-99, 9)), 0), [])

    def test_both_ends_count(self):
        # The first drives the right end; the second comes in there, and drives only the left one.
        self.assertEqual(spare(((0, 1), (4, -1)), 0), [])
        self.assertEqual(spare(((0, 1), (4, -1), (0, -1)), 0), [1])

    def test_who_is_needed_only_to_tell_another_is_needed(self):
        self.assertEqual(spare(((0, 2), (6, 1)), 0), [1])
        self.assertEqual(spare(((0, 2), (6, -1)), 0), [])


class Lean(unittest.TestCase):
    def test_those_who_are_needed_are_left(self):
        self.assertEqual(lean(MANY, 0), [0, 1, 2])
        self.assertEqual(lean(MANY, 6), [1])

    def test_no_walkers(self):
        self.assertEqual(lean((), 0), [])

    def test_nobody_is_left_where_nothing_goes_on(self):
        self.assertEqual(lean(((3, 1), (0, 0), (-5, -2), (7, 0)), 0), [])

    def test_of_twins_the_last_are_left_out(self):
        self.assertEqual(lean(((0, 1), (0, 1)), 0), [0])
        self.assertEqual(lean(((5, 0), (0, 1), (0, -1), (0, 1), (0, -1), (0, 1)), 0), [1, 2])
        self.assertEqual(lean(((0, 1),) * 8, 0), [0])

    def test_one_alone(self):
        self.assertEqual(lean(((4, 0),), 4), [])
        self.assertEqual(lean(((4, 1),), 4), [0])

    def test_all_are_left(self):
        self.assertEqual(lean(((0, 1), (-1, 2), (-10, 4)), 0), [0, 1, 2])


class Paces(unittest.TestCase):
    WALKERS = ((0, 1), (6, 0))

    def test_as_quick_as_needed_or_quicker(self):
        self.assertEqual(paces(self.WALKERS, 0, 0, 6, (2, 1)), [3, 4, 5, 6, 7, 8, 9])
        self.assertEqual(paces(self.WALKERS, 0, 0, 6, (6, 1)), list(range(1, 10)))
        self.assertEqual(paces(self.WALKERS, 0, 0, -6, (2, 1)), [-9, -8, -7, -6, -5, -4, -3])

    def test_just_in_time_and_just_not(self):
        self.assertEqual(paces(self.WALKERS, 0, 0, 6, (2, 3)), [9])
        self.assertEqual(paces(self.WALKERS, 0, 0, 6, (665, 999)), [])
        self.assertEqual(paces(self.WALKERS, 0, 0, 6, (6, 7)), [7, 8, 9])
        self.assertEqual(paces(self.WALKERS, 0, 0, 6, (855, 998)), [8, 9])
        self.assertEqual(paces(self.WALKERS, 0, 0, 6, (0, 1)), [])

    def test_a_time_in_other_terms(self):
        self.assertEqual(paces(self.WALKERS, 0, 0, 6, (200, 100)), [3, 4, 5, 6, 7, 8, 9])

    def test_a_place_behind_one_who_must_learn_first(self):
        # Two learns at 6 / (1 - pace), and is at -3 at 9 / -pace.
        self.assertEqual(paces(self.WALKERS, 0, 1, -3, (3, 1)), [-9, -8, -7, -6, -5, -4, -3])
        self.assertEqual(paces(self.WALKERS, 0, 1, -3, (1, 1)), [-9])
        self.assertEqual(paces(self.WALKERS, 0, 1, -3, (9, 1)), list(range(-9, 0)))

    def test_all_paces_where_others_bring_it(self):
        self.assertEqual(paces(self.WALKERS, 0, 1, 6, (6, 1)), ALL)
        self.assertEqual(paces(self.WALKERS, 0, 1, 6, (5, 1)), [])
        self.assertEqual(paces(MANY, 0, 4, -1, (5, 1)), ALL)

    def test_others_stay_as_they_are(self):
        # Two brings it to 6 by 11/3, whatever the pace of one; ahead of it only one could.
        self.assertEqual(paces(MANY, 0, 0, 6, (11, 3)), ALL)
        self.assertEqual(paces(MANY, 0, 0, 6, (10, 3)), [2, 3, 4, 5, 6, 7, 8, 9])

    def test_another_one_brings_it_in_time_whatever_the_pace(self):
        # Two comes by 0, where it's known, on its way to -4.
        self.assertEqual(paces(((0, 1), (20, -3)), 0, 0, -4, (8, 1)), ALL)
        # Two comes by 4 on its way to 14, where it is at 5; ahead of it one can be there alone.
        walkers = ((4, 0), (-31, 9), (3, 1))
        self.assertEqual(paces(walkers, 4, 0, 14, (5, 1)), ALL)
        self.assertEqual(paces(walkers, 4, 0, 14, (4, 1)), [3, 4, 5, 6, 7, 8, 9])

    def test_a_pace_at_which_one_comes_to_one_who_brings_it(self):
        # One is at 9 at time 9 by itself.
        self.assertEqual(paces(((0, 1), (2, 1)), 0, 1, 9, (9, 1)), ALL)
        # Two is at 9 at time 7, and knows, if one is quicker than it and so has caught up with it.
        self.assertEqual(paces(((0, 1), (2, 1)), 0, 0, 9, (7, 1)), [2, 3, 4, 5, 6, 7, 8, 9])
        self.assertEqual(paces(((0, 1), (2, 1)), 0, 0, 2, (1, 1)), [2, 3, 4, 5, 6, 7, 8, 9])

    def test_the_start_knows_at_once(self):
        self.assertEqual(paces(self.WALKERS, 3, 0, 3, (0, 999)), ALL)

    def test_no_pace_makes_it(self):
        self.assertEqual(paces(((5, 0),), 0, 0, 9, (1, 1)), [])
        self.assertEqual(paces(((99, 0),), -99, 0, -98, (99999, 1)), [])

    def test_twins_are_told_from_one_another(self):
        self.assertEqual(paces(((0, 1), (0, 1)), 0, 1, 4, (2, 1)), [2, 3, 4, 5, 6, 7, 8, 9])
        self.assertEqual(paces(((0, 1), (0, 1)), 0, 0, 4, (4, 1)), ALL)


class First(unittest.TestCase):
    WALKERS = ((0, 1), (10, -1))

    def test_the_sooner_one(self):
        self.assertEqual(first(self.WALKERS, 0, 10, 4), 0)
        self.assertEqual(first(self.WALKERS, 10, 0, 4), 1)
        self.assertEqual(first(self.WALKERS, 0, 10, 6), 1)
        self.assertEqual(first(self.WALKERS, 10, 0, 6), 0)

    def test_at_one_time(self):
        self.assertIsNone(first(self.WALKERS, 0, 10, 5))
        # From 10 on, one learns at 5, and is at 50 just when it is there from 0 on.
        self.assertIsNone(first(self.WALKERS, 0, 10, 50))
        self.assertIsNone(first(self.WALKERS, 3, 3, 3))
        self.assertIsNone(first(self.WALKERS, 0, 0, 4))

    def test_at_one_time_that_is_not_whole(self):
        self.assertEqual(first(((0, 2), (5, -2)), 0, 5, 2), 0)
        self.assertIsNone(first(((0, 2), (0, -2)), 0, 0, 1))
        self.assertIsNone(first(((-3, 2), (3, -2)), -3, 3, 0))

    def test_by_one_of_them_alone(self):
        self.assertEqual(first(((0, 1),), 0, -5, -3), None)
        self.assertEqual(first(((0, 1),), -5, 0, -5), 0)
        self.assertEqual(first(((0, 1),), 0, -5, -5), 1)
        self.assertEqual(first(((0, 1),), -5, 0, 9), 1)
        self.assertEqual(first(((0, 1),), 0, -5, 9), 0)

    def test_by_neither(self):
        self.assertIsNone(first((), 1, 2, 3))
        self.assertIsNone(first(((0, 1),), 0, 0, -3))
        self.assertIsNone(first(self.WALKERS, 11, 12, 13))

    def test_the_start_is_first_at_its_own_place(self):
        self.assertEqual(first((), 7, 3, 7), 0)
        self.assertEqual(first((), 7, 3, 3), 1)
        self.assertEqual(first(self.WALKERS, 10, 0, 0), 1)

    def test_each_rumour_goes_by_itself(self):
        # From 2 on it waits for three, who comes to 2 at time 8, and knows nothing of the other rumour.
        walkers = ((0, 1), (10, -1))
        self.assertEqual(first(walkers, 2, 0, 2), 0)
        self.assertEqual(first(walkers, -1, 2, 3), 1)


if __name__ == "__main__":
    unittest.main()
