"""Promise [1]: kinds of what is told, and that asking changes nothing."""

import copy
import inspect
import unittest
from math import gcd

from saidroad import spreading
from saidroad.errors import RoadError

WALKERS = ((0, 2), (-5, 3), (4, -1), (10, 1), (6, 0), (50, 9), (-7, -3), (0, 2))
QUESTIONS = [
    ("stretch", (WALKERS, 0, (14, 4))),
    ("stretch", ((), 3, (1, 2))),
    ("known", (WALKERS, 0, 5)),
    ("known", (WALKERS, 0, -99)),
    ("learnt", (WALKERS, 0)),
    ("tellers", (WALKERS, 0)),
    ("drivers", (WALKERS, 0)),
    ("starts", (WALKERS, (18, 2), (-5, 1), (22, 1))),
    ("learnt", ((), 0)),
    ("tellers", ((), 0)),
    ("drivers", ((), 0)),
    ("starts", ((), (1, 1), (6, 2), (3, 1))),
]
PARAMETERS = {
    "stretch": ["walkers", "start", "time"],
    "known": ["walkers", "start", "place"],
    "learnt": ["walkers", "start"],
    "tellers": ["walkers", "start"],
    "drivers": ["walkers", "start"],
    "starts": ["walkers", "time", "left", "right"],
}


def ask(name, handed):
    return getattr(spreading, name)(*handed)


def spoil(told):
    """Change each list in what was told."""
    if isinstance(told, (list, tuple)):
        for part in told:
            spoil(part)
    if isinstance(told, list):
        told.clear()
        told.append("spoilt")


class Told(unittest.TestCase):
    def is_number(self, told):
        self.assertIs(type(told), int)

    def is_fraction(self, told):
        self.assertIs(type(told), tuple)
        self.assertEqual(len(told), 2)
        self.is_number(told[0])
        self.is_number(told[1])
        self.assertGreater(told[1], 0)
        self.assertEqual(gcd(told[0], told[1]), 1)

    def test_stretch_tells_a_pair_of_fractions(self):
        for time in ((0, 1), (0, 999), (7, 3), (14, 6), (99999, 999)):
            told = spreading.stretch(WALKERS, 0, time)
            self.assertIs(type(told), tuple)
            self.assertEqual(len(told), 2)
            for end in told:
                self.is_fraction(end)

    def test_known_tells_a_fraction(self):
        for place in range(-99, 100):
            self.is_fraction(spreading.known(WALKERS, 0, place))

    def test_lists_of_fractions_and_numbers(self):
        told = spreading.learnt(WALKERS, 0)
        self.assertIs(type(told), list)
        for time in told:
            if time is not None:
                self.is_fraction(time)
        told = spreading.tellers(WALKERS, 0)
        self.assertIs(type(told), list)
        for row in told:
            if row is not None:
                self.assertIs(type(row), tuple)
                time, point, teller = row
                self.is_fraction(time)
                self.is_fraction(point)
                if teller is not None:
                    self.is_number(teller)

    def test_drivers_tells_a_pair_of_lists(self):
        told = spreading.drivers(WALKERS, 0)
        self.assertIs(type(told), tuple)
        self.assertEqual(len(told), 2)
        for end in told:
            self.assertIs(type(end), list)
            self.assertTrue(end)
            for row in end:
                self.assertIs(type(row), tuple)
                time, number = row
                self.is_fraction(time)
                self.is_number(number)

    def test_starts_tells_a_list_of_places(self):
        told = spreading.starts(*QUESTIONS[7][1])
        self.assertIs(type(told), list)
        self.assertTrue(told)
        for start in told:
            self.is_number(start)


class AskedAgain(unittest.TestCase):
    def test_the_same_is_told(self):
        first = [copy.deepcopy(ask(*question)) for question in QUESTIONS]
        again = [ask(*question) for question in reversed(QUESTIONS)]
        self.assertEqual(first, again[::-1])

    def test_what_is_told_may_be_changed(self):
        for question in QUESTIONS:
            told = ask(*question)
            before = copy.deepcopy(told)
            other = ask(*question)
            spoil(told)
            self.assertEqual(other, before)
            self.assertEqual(ask(*question), before)

    def test_lists_that_are_told_are_not_one_list(self):
        left, right = spreading.drivers((), 0)
        left.append("spoilt")
        self.assertEqual(right, [])
        self.assertEqual(spreading.drivers((), 0), ([], []))

    def test_what_is_handed_in_is_as_it_was(self):
        for name, handed in QUESTIONS:
            before = copy.deepcopy(handed)
            ask(name, handed)
            self.assertEqual(handed, before)

    def test_what_is_refused_changes_nothing(self):
        before = [ask(*question) for question in QUESTIONS]
        rows = [[0, 1], (3, 4)]
        for handed in (rows, (rows[0],), tuple(rows)):
            with self.assertRaises(RoadError):
                spreading.learnt(handed, 0)
        self.assertEqual(rows, [[0, 1], (3, 4)])
        with self.assertRaises(RoadError):
            spreading.stretch(WALKERS, 0, [1, 2])
        self.assertEqual([ask(*question) for question in QUESTIONS], before)


class Interface(unittest.TestCase):
    def test_each_function_is_defined_here_with_these_names(self):
        for name, parameters in PARAMETERS.items():
            with self.subTest(name):
                function = getattr(spreading, name)
                self.assertEqual(function.__module__, "saidroad.spreading")
                self.assertEqual(list(inspect.signature(function).parameters), parameters)

    def test_arguments_can_be_handed_in_by_name(self):
        for name, handed in QUESTIONS:
            named = dict(zip(PARAMETERS[name], handed))
            self.assertEqual(getattr(spreading, name)(**named), ask(name, handed))


if __name__ == "__main__":
    unittest.main()
