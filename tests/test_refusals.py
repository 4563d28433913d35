"""Promises [2] and [7]: what can be handed in to ask by, what is refused, and what is refused first."""

import copy
import unittest

from saidroad import errors
from saidroad.asking import chain, first, judged, lean, paces, spare
from saidroad.notes import written
from saidroad.spreading import drivers, known, learnt, starts, stretch, tellers

GOOD = (0, 1)
EIGHT = (GOOD,) * 8
WALKERS = (GOOD, (3, -2))
TIME = (1, 2)

BAD_WALKERS = [
    (None, 0), ([], 0), ([GOOD], 0), ("", 0), ("ab", 0), (0, 0), (5, 0), (True, 0), (False, 0),
    ((0, 1), 0), ((None,), 0), ((True,), 0), (("ab",), 0), (((),), 0), (((0,),), 0), (((0, 1, 2),), 0),
    (([0, 1],), 0), (([],),  0), ((((0, 1),),), 0),
    (((100, 0),), 0), (((-100, 0),), 0), (((0, 10),), 0), (((0, -10),), 0),
    (((True, 1),), 0), (((False, 1),), 0), (((0, True),), 0), (((0, False),), 0),
    ((("0", 1),), 0), (((0, "1"),), 0), (((None, 1),), 0), (((0, None),), 0), ((((0,), 1),), 0), (((0, [1]),), 0),
    ((GOOD, (100, 0)), 1), ((GOOD, GOOD, [0, 1]), 2), ((GOOD, (0, 10), (0, -10)), 1), ((None, (0, 10)), 0),
    (EIGHT[:7] + ((0, True),), 7), (EIGHT + (GOOD,), 8), (EIGHT + (None,), 8), (EIGHT + EIGHT, 8),
    (EIGHT + (None, GOOD), 8), (EIGHT[:7] + (None, GOOD), 7), ((None,) + EIGHT, 0), (EIGHT[:3] + (0,) + EIGHT, 3),
]
BAD_PLACES = [100, -100, 10 ** 30, True, False, None, "", "5", (), (5,), (5, 1), [5], []]
BAD_PAIRS = [
    (0, 0), (1, 0), (0, 1000), (5, -1), (0, -1), (100000, 1), (99999999, 999), (-100000, 1), (), (1,), (0, 1, 1),
    (True, 1), (False, 1), (0, True), (None, 1), (0, None), ("0", 1), (0, "1"), ((0, 1), 1), (0, [1]),
    [0, 1], [], 0, 1, True, False, None, "", "0 1", ((0, 1), (0, 1)),
]
BAD_NUMBERS = [2, 3, 8, -1, -2, 10 ** 30, True, False, None, "", "0", (), (0,), [0], []]
BAD_TIMES = BAD_PAIRS + [(-1, 1), (-1, 999), (-99999, 1)]


class Refusals(unittest.TestCase):
    def refused(self, kind, question, *handed, **values):
        """The question is refused by just this kind of error, with these values, and changes nothing."""
        before = copy.deepcopy(handed)
        with self.subTest(question=question.__name__, handed=handed):
            with self.assertRaises(errors.RoadError) as caught:
                question(*handed)
            self.assertIs(type(caught.exception), kind)
            self.assertEqual(vars(caught.exception), values)
            self.assertEqual(repr(handed), repr(before))

    def test_walkers(self):
        for walkers, number in BAD_WALKERS:
            self.refused(errors.BadWalkers, stretch, walkers, 0, TIME, number=number)
            self.refused(errors.BadWalkers, known, walkers, 0, 0, number=number)
            self.refused(errors.BadWalkers, starts, walkers, TIME, (0, 1), (1, 1), number=number)
            self.refused(errors.BadWalkers, paces, walkers, 0, 0, 0, TIME, number=number)
            self.refused(errors.BadWalkers, first, walkers, 0, 0, 0, number=number)
            self.refused(errors.BadWalkers, judged, walkers, 0, 0, [], number=number)
            self.refused(errors.BadWalkers, chain, walkers, 0, 0, number=number)
            for question in (learnt, tellers, drivers, spare, lean, written):
                self.refused(errors.BadWalkers, question, walkers, 0, number=number)

    def test_starts_that_are_no_places(self):
        for place in BAD_PLACES:
            self.refused(errors.BadPlace, stretch, WALKERS, place, TIME)
            self.refused(errors.BadPlace, known, WALKERS, place, 0)
            self.refused(errors.BadPlace, paces, WALKERS, place, 0, 0, TIME)
            self.refused(errors.BadPlace, first, WALKERS, place, 0, 0)
            self.refused(errors.BadPlace, first, WALKERS, 0, place, 0)
            self.refused(errors.BadPlace, judged, WALKERS, place, 0, [])
            self.refused(errors.BadPlace, chain, WALKERS, place, 0)
            for question in (learnt, tellers, drivers, spare, lean, written):
                self.refused(errors.BadPlace, question, WALKERS, place)
                self.refused(errors.BadPlace, question, (), place)

    def test_places(self):
        for place in BAD_PLACES:
            self.refused(errors.BadPlace, known, WALKERS, 0, place)
            self.refused(errors.BadPlace, known, (), 0, place)
            self.refused(errors.BadPlace, paces, WALKERS, 0, 0, place, TIME)
            self.refused(errors.BadPlace, first, WALKERS, 0, 0, place)
            self.refused(errors.BadPlace, first, (), 0, 0, place)
            self.refused(errors.BadPlace, judged, WALKERS, 0, place, [])
            self.refused(errors.BadPlace, judged, (), 0, place, [])
            self.refused(errors.BadPlace, chain, WALKERS, 0, place)
            self.refused(errors.BadPlace, chain, (), 0, place)

    def test_numbers_that_no_walker_has(self):
        for number in BAD_NUMBERS:
            self.refused(errors.NoWalker, paces, WALKERS, 0, number, 0, TIME)
        for number in (0, -1, 1, None, False):
            self.refused(errors.NoWalker, paces, (), 0, number, 0, TIME)
        self.refused(errors.NoWalker, paces, EIGHT, 0, 8, 0, TIME)

    def test_times(self):
        for time in BAD_TIMES:
            self.refused(errors.BadTime, stretch, WALKERS, 0, time)
            self.refused(errors.BadTime, stretch, (), 0, time)
            self.refused(errors.BadTime, starts, WALKERS, time, (0, 1), (1, 1))
            self.refused(errors.BadTime, paces, WALKERS, 0, 1, 0, time)

    def test_points(self):
        for point in BAD_PAIRS:
            self.refused(errors.BadPoint, starts, WALKERS, TIME, point, (1, 1))
            self.refused(errors.BadPoint, starts, WALKERS, TIME, (0, 1), point)
            self.refused(errors.BadPoint, starts, (), TIME, point, point)

    def test_what_is_handed_in_first_is_refused_first(self):
        wrong, late = [None], (-1, 1)
        self.refused(errors.BadWalkers, stretch, wrong, 100, late, number=0)
        self.refused(errors.BadWalkers, stretch, wrong, 0, late, number=0)
        self.refused(errors.BadPlace, stretch, WALKERS, 100, late)
        self.refused(errors.BadTime, stretch, WALKERS, 99, late)
        self.refused(errors.BadWalkers, known, (GOOD, None), 100, 100, number=1)
        self.refused(errors.BadWalkers, known, (GOOD, None), 0, 100, number=1)
        for question in (learnt, tellers, drivers, spare, lean, written):
            self.refused(errors.BadWalkers, question, EIGHT + (GOOD,), True, number=8)
        self.refused(errors.BadWalkers, starts, wrong, late, (0, 0), (0, 0), number=0)
        self.refused(errors.BadWalkers, starts, wrong, TIME, (0, 0), (0, 1), number=0)
        self.refused(errors.BadTime, starts, WALKERS, late, (0, 0), (0, 0))
        self.refused(errors.BadTime, starts, WALKERS, late, (0, 1), (0, 0))
        self.refused(errors.BadPoint, starts, WALKERS, TIME, (0, 0), (0, 0))

    def test_what_is_handed_in_first_is_refused_first_by_asking(self):
        wrong, late = [None], (-1, 1)
        self.refused(errors.BadWalkers, paces, wrong, 100, 9, 100, late, number=0)
        self.refused(errors.BadPlace, paces, WALKERS, 100, 9, 0, late)
        self.refused(errors.NoWalker, paces, WALKERS, 0, 9, 100, late)
        self.refused(errors.NoWalker, paces, WALKERS, 0, 9, 0, late)
        self.refused(errors.BadPlace, paces, WALKERS, 0, 1, 100, late)
        self.refused(errors.BadTime, paces, WALKERS, 0, 1, 0, late)
        self.refused(errors.BadWalkers, first, wrong, 100, 100, 100, number=0)
        self.refused(errors.BadWalkers, judged, wrong, 100, 100, None, number=0)
        self.refused(errors.BadPlace, judged, WALKERS, 100, 0, None)
        self.refused(errors.BadPlace, judged, WALKERS, 0, 100, None)
        self.refused(errors.BadPlace, judged, WALKERS, 0, 100, [None])
        self.refused(errors.BadChain, judged, WALKERS, 0, 0, None, number=0)
        self.refused(errors.BadWalkers, chain, wrong, 100, 100, number=0)
        self.refused(errors.BadPlace, chain, WALKERS, 99, 100)
        self.refused(errors.NeverKnown, chain, WALKERS, 99, 98)

    def test_limits_can_be_handed_in_to_asking(self):
        far = ((99, 9), (-99, -9), (99, -9), (-99, 9), (0, 0), (99, 0), (-99, 0), (1, 1))
        for start in (-99, 99):
            self.assertEqual(len(lean(far, start)), 2)
            self.assertEqual(len(spare(far, start)), 6)
            self.assertEqual(first(far, start, -start, start), 0)
            self.assertEqual(chain(far, start, start), [])
            self.assertEqual(judged(far, start, -start, chain(far, start, -start)), (22, 1))
            for number in (0, 7):
                self.assertEqual(paces(far, start, number, -start, (99999, 1)), list(range(-9, 10)))
                self.assertEqual(paces(far, start, number, -start, (0, 999)), [])

    def test_limits_can_be_handed_in(self):
        far = ((99, 9), (-99, -9), (99, -9), (-99, 9), (0, 0), (99, 0), (-99, 0), (1, 1))
        for start in (-99, 99):
            self.assertEqual(len(learnt(far, start)), 8)
            self.assertEqual(len(tellers(far, start)), 8)
            self.assertEqual(len(drivers(far, start)), 2)
            self.assertEqual(known(far, start, start), (0, 1))
            for time in ((0, 1), (0, 999), (99999, 1), (99999, 999)):
                self.assertEqual(len(stretch(far, start, time)), 2)
                for point in ((-99999, 1), (99999, 1), (-99999, 999), (99999, 999), (0, 999)):
                    self.assertIsInstance(starts(far, time, point, point), list)
        for place in (-99, 99):
            self.assertEqual(known((), place, place), (0, 1))
            self.assertIsNone(known((), place, -place))


if __name__ == "__main__":
    unittest.main()
