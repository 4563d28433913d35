"""Promise [1]: kinds of what is told, and that asking changes nothing."""

import copy
import inspect
import unittest
from math import gcd

from saidroad import asking, notes, spreading
from saidroad.errors import RoadError
from saidroad.road import Road

WALKERS = ((0, 2), (-5, 3), (4, -1), (10, 1), (6, 0), (50, 9), (-7, -3), (0, 2))
QUESTIONS = [
    ("stretch", (WALKERS, 0, (14, 4))),
    ("stretch", ((), 3, (1, 2))),
    ("known", (WALKERS, 0, 5)),
    ("known", (WALKERS, 0, -99)),
    ("learnt", (WALKERS, 0)),
    ("tellers", (WALKERS, 0)),
    ("drivers", (WALKERS, 0)),
    ("starts", (WALKERS, (18, 2), (-5, 1), (22, 1))),
    ("learnt", ((), 0)),
    ("tellers", ((), 0)),
    ("drivers", ((), 0)),
    ("starts", ((), (1, 1), (6, 2), (3, 1))),
    ("spare", (WALKERS, 0)),
    ("lean", (WALKERS, 0)),
    ("paces", (WALKERS, 0, 2, -9, (15, 2))),
    ("chain", (WALKERS, 0, -40)),
    ("chain", (WALKERS, 0, 0)),
    ("first", (WALKERS, 0, 4, 2)),
    ("judged", (WALKERS, 0, 6, [(0, (0, 3), (4, 2)), (0, (4, 2), (9, 3))])),
    ("judged", (WALKERS, 0, 0, [])),
    ("spare", ((), 0)),
    ("lean", ((), 0)),
    ("written", (WALKERS, -9)),
    ("read", ("said -9\nwalker 3 4",)),
]
PARAMETERS = {
    "stretch": ["walkers", "start", "time"],
    "known": ["walkers", "start", "place"],
    "learnt": ["walkers", "start"],
    "tellers": ["walkers", "start"],
    "drivers": ["walkers", "start"],
    "starts": ["walkers", "time", "left", "right"],
    "spare": ["walkers", "start"],
    "lean": ["walkers", "start"],
    "paces": ["walkers", "start", "number", "place", "time"],
    "chain": ["walkers", "start", "place"],
    "first": ["walkers", "one", "other", "place"],
    "judged": ["walkers", "start", "place", "told"],
    "written": ["walkers", "start"],
    "read": ["text"],
}
MODULES = {name: asking for name in ("spare", "lean", "paces", "chain", "first", "judged")}
MODULES.update({"written": notes, "read": notes})
METHODS = {
    "do": ["self", "deed"],
    "back": ["self"],
    "batch": ["self", "deeds", "keep"],
    "knowing": ["self"],
    "deeds": ["self"],
    "walkers": ["self"],
    "stands": ["self"],
}
DEEDS = [
    ("come", 0, 2), ("come", -5, 3), ("come", 7, -1), ("say", 0), ("wait", 4), ("turn", 0, -3), ("leave", 1), ("wait", 9),
]


def question_of(name):
    return getattr(MODULES.get(name, spreading), name)


def ask(name, handed):
    return question_of(name)(*handed)


def seen(road):
    """All that a road tells, by itself."""
    return [copy.deepcopy(told) for told in (road.walkers(), road.knowing(), road.stands(), road.deeds())]


def spoil(told):
    """Change each list and each dict in what was told."""
    if isinstance(told, dict):
        told.clear()
        told["spoilt"] = None
    if isinstance(told, (list, tuple)):
        for part in told:
            spoil(part)
    if isinstance(told, list):
        told.clear()
        told.append("spoilt")


class Told(unittest.TestCase):
    def is_number(self, told):
        self.assertIs(type(told), int)

    def is_fraction(self, told):
        self.assertIs(type(told), tuple)
        self.assertEqual(len(told), 2)
        self.is_number(told[0])
        self.is_number(told[1])
        self.assertGreater(told[1], 0)
        self.assertEqual(gcd(told[0], told[1]), 1)

    def test_stretch_tells_a_pair_of_fractions(self):
        for time in ((0, 1), (0, 999), (7, 3), (14, 6), (99999, 999)):
            told = spreading.stretch(WALKERS, 0, time)
            self.assertIs(type(told), tuple)
            self.assertEqual(len(told), 2)
            for end in told:
                self.is_fraction(end)

    def test_known_tells_a_fraction(self):
        for place in range(-99, 100):
            self.is_fraction(spreading.known(WALKERS, 0, place))

    def test_lists_of_fractions_and_numbers(self):
        told = spreading.learnt(WALKERS, 0)
        self.assertIs(type(told), list)
        for time in told:
            if time is not None:
                self.is_fraction(time)
        told = spreading.tellers(WALKERS, 0)
        self.assertIs(type(told), list)
        for row in told:
            if row is not None:
                self.assertIs(type(row), tuple)
                time, point, teller = row
                self.is_fraction(time)
                self.is_fraction(point)
                if teller is not None:
                    self.is_number(teller)

    def test_drivers_tells_a_pair_of_lists(self):
        told = spreading.drivers(WALKERS, 0)
        self.assertIs(type(told), tuple)
        self.assertEqual(len(told), 2)
        for end in told:
            self.assertIs(type(end), list)
            self.assertTrue(end)
            for row in end:
                self.assertIs(type(row), tuple)
                time, number = row
                self.is_fraction(time)
                self.is_number(number)

    def test_starts_tells_a_list_of_places(self):
        told = spreading.starts(*QUESTIONS[7][1])
        self.assertIs(type(told), list)
        self.assertTrue(told)
        for start in told:
            self.is_number(start)

    def test_lists_of_numbers(self):
        for name, handed in QUESTIONS:
            if name in ("spare", "lean", "paces"):
                told = ask(name, handed)
                self.assertIs(type(told), list)
                for number in told:
                    self.is_number(number)
        self.assertTrue(spreading.known(WALKERS, 0, -9) and asking.paces(WALKERS, 0, 2, -9, (15, 2)))

    def test_first_tells_a_number(self):
        told = [asking.first(WALKERS, 0, 10, place) for place in (0, 10)]
        self.assertEqual(told, [0, 1])
        for number in told:
            self.is_number(number)

    def test_judged_tells_a_fraction(self):
        for end in ((6, 4), (3, 2), (4, 1), (8, 2)):
            told = asking.judged(((0, 2),), 0, 2 * end[0] // end[1], [(0, (0, 9), end)])
            self.is_fraction(told)
        self.is_fraction(asking.judged((), 5, 5, []))

    def test_chain_tells_a_list_of_legs(self):
        for place in range(-99, 100):
            told = asking.chain(WALKERS, 0, place)
            self.assertIs(type(told), list)
            self.assertEqual(told == [], place == 0)
            for leg in told:
                self.assertIs(type(leg), tuple)
                number, begin, end = leg
                self.is_number(number)
                self.is_fraction(begin)
                self.is_fraction(end)

    def test_a_road_tells_numbers_and_times(self):
        road = Road()
        for deed in DEEDS:
            known = road.do(deed)
            time, told = road.stands()
            self.assertEqual(told, known)
            self.is_fraction(time)
            if known is not None:
                self.assertIs(type(known), tuple)
                self.assertEqual(len(known), 2)
                self.is_number(known[0])
                self.is_number(known[1])
            self.assertIs(type(road.knowing()), list)
            self.assertIs(type(road.deeds()), list)
            self.assertIs(type(road.walkers()), dict)
            for number in road.knowing():
                self.is_number(number)
            for number, walker in road.walkers().items():
                self.is_number(number)
                self.assertIs(type(walker), tuple)
                place, pace = walker
                self.is_number(place)
                self.is_number(pace)
        self.assertIs(type(road.stands()), tuple)
        self.assertIs(type(Road().batch(DEEDS)), list)


class AskedAgain(unittest.TestCase):
    def test_the_same_is_told(self):
        first = [copy.deepcopy(ask(*question)) for question in QUESTIONS]
        again = [ask(*question) for question in reversed(QUESTIONS)]
        self.assertEqual(first, again[::-1])

    def test_what_is_told_may_be_changed(self):
        for question in QUESTIONS:
            told = ask(*question)
            before = copy.deepcopy(told)
            other = ask(*question)
            spoil(told)
            self.assertEqual(other, before)
            self.assertEqual(ask(*question), before)

    def test_lists_that_are_told_are_not_one_list(self):
        left, right = spreading.drivers((), 0)
        left.append("spoilt")
        self.assertEqual(right, [])
        self.assertEqual(spreading.drivers((), 0), ([], []))

    def test_what_is_handed_in_is_as_it_was(self):
        for name, handed in QUESTIONS:
            before = copy.deepcopy(handed)
            ask(name, handed)
            self.assertEqual(handed, before)

    def test_what_is_refused_changes_nothing(self):
        before = [ask(*question) for question in QUESTIONS]
        rows = [[0, 1], (3, 4)]
        for handed in (rows, (rows[0],), tuple(rows)):
            with self.assertRaises(RoadError):
                spreading.learnt(handed, 0)
        self.assertEqual(rows, [[0, 1], (3, 4)])
        with self.assertRaises(RoadError):
            spreading.stretch(WALKERS, 0, [1, 2])
        self.assertEqual([ask(*question) for question in QUESTIONS], before)


class RoadAskedAgain(unittest.TestCase):
    def test_the_same_is_told(self):
        road = Road()
        for deed in DEEDS:
            road.do(deed)
            self.assertEqual(seen(road), seen(road))

    def test_what_is_told_may_be_changed(self):
        road, other = Road(), Road()
        for deed in DEEDS:
            other.do(deed)
            spoil(road.do(deed))
            for told in (road.walkers(), road.knowing(), road.stands(), road.deeds()):
                spoil(told)
            self.assertEqual(seen(road), seen(other))
        while other.back():
            road.back()
            self.assertEqual(seen(road), seen(other))

    def test_what_a_batch_tells_may_be_changed(self):
        road = Road()
        spoil(road.batch(DEEDS))
        other = Road()
        other.batch(DEEDS)
        self.assertEqual(seen(road), seen(other))

    def test_what_is_handed_in_may_be_changed_later(self):
        road, deeds = Road(), list(DEEDS)
        road.batch(deeds)
        self.assertEqual(deeds, DEEDS)
        before = seen(road)
        deeds.clear()
        self.assertEqual(seen(road), before)
        self.assertEqual(road.deeds(), DEEDS)

    def test_what_is_refused_changes_nothing(self):
        road = Road()
        road.batch(DEEDS)
        before = seen(road)
        for deeds in (None, [("wait", 1), ("wait",)], [("wait", 1), ["wait", 1]]):
            self.assertRaises(RoadError, road.batch, deeds)
        for deed in (("say", 3), ("come", 1, 10), ("leave", 1), ("turn", True, 1), ["wait", 1], None):
            self.assertRaises(RoadError, road.do, deed)
            with self.assertRaises(RoadError):
                road.batch([("wait", 1), ("come", 1, 1), deed], keep=False)
        self.assertEqual(seen(road), before)
        road.do(("come", 4, 4))
        self.assertEqual(sorted(road.walkers()), [0, 2, 3])


class Interface(unittest.TestCase):
    def test_each_function_is_defined_here_with_these_names(self):
        for name, parameters in PARAMETERS.items():
            with self.subTest(name):
                function = question_of(name)
                self.assertEqual(function.__module__, MODULES.get(name, spreading).__name__)
                self.assertEqual(list(inspect.signature(function).parameters), parameters)

    def test_arguments_can_be_handed_in_by_name(self):
        for name, handed in QUESTIONS:
            named = dict(zip(PARAMETERS[name], handed))
            self.assertEqual(question_of(name)(**named), ask(name, handed))

    def test_each_method_is_defined_in_the_class_itself(self):
        self.assertEqual(Road.__module__, "saidroad.road")
        self.assertEqual(list(inspect.signature(Road).parameters), [])
        for name, parameters in METHODS.items():
            with self.subTest(name):
                self.assertIn(name, vars(Road))
                self.assertEqual(list(inspect.signature(vars(Road)[name]).parameters), parameters)

    def test_what_methods_are_handed_by_name(self):
        road = Road()
        self.assertIsNone(road.do(deed=("come", 1, 1)))
        self.assertEqual(road.batch(deeds=[("say", 1)], keep=False), [(1, 1)])
        keep = inspect.signature(Road.batch).parameters["keep"]
        self.assertIs(keep.kind, inspect.Parameter.KEYWORD_ONLY)
        self.assertIs(keep.default, True)


if __name__ == "__main__":
    unittest.main()
