"""Chains of carriers: which legs can be, each behind the one ahead of it.

A leg is (walker, begin, end): from its begin to its end this walker carries the rumour.
"""

from saidroad.checks import is_number_of, is_time
from saidroad.course import point_of
from saidroad.errors import BadChain
from saidroad.ratios import is_below, lowest


def is_leg(told, walkers):
    """Whether this is a leg by itself, wherever it begins."""
    if not isinstance(told, tuple) or len(told) != 3:
        return False
    number, begin, end = told
    return is_number_of(number, walkers) and is_time(begin) and is_time(end) and not is_below(end, begin)


def is_passed(point, walker, leg, time):
    """Whether this walker was at the point in its leg, not later than the time."""
    _, begin, end = leg
    if walker[1] == 0:
        # One who stands is there as early as its leg begins, or not at all.
        return point == (walker[0], 1) and not is_below(time, begin)
    there = lowest(point[0] - walker[0] * point[1], walker[1] * point[1])
    return not is_below(there, begin) and not is_below(end, there) and not is_below(time, there)


def can_follow(walkers, start, ahead, leg):
    """Whether a leg begins where the one ahead of it has been; the first one (None is ahead), at the start."""
    number, begin, _ = leg
    point = point_of(walkers[number], begin)
    if ahead is None:
        return point == (start, 1)
    return is_passed(point, walkers[ahead[0]], ahead, begin)


def check_chain(walkers, start, told):
    """Refuse what is no chain."""
    if not isinstance(told, list):
        raise BadChain(0)
    ahead = None
    for number, leg in enumerate(told):
        if not is_leg(leg, walkers) or not can_follow(walkers, start, ahead, leg):
            raise BadChain(number)
        ahead = leg
