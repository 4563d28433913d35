"""What can be handed in: each check refuses what can't be."""

from saidroad.errors import BadPlace, BadPoint, BadTime, BadWalkers

MOST_WALKERS = 8
FARTHEST = 99
QUICKEST = 9
MOST_TOP = 99999
MOST_BOTTOM = 999


def is_whole(told, low, high):
    """Whether this is a whole number from low to high; True and False are none."""
    return isinstance(told, int) and not isinstance(told, bool) and low <= told <= high


def is_pair(told):
    """Whether this is a tuple of two."""
    return isinstance(told, tuple) and len(told) == 2


def is_place(told):
    """Whether this is a place that can be handed in."""
    return is_whole(told, -FARTHEST, FARTHEST)


def is_walker(told):
    """Whether this is a (place, pace) that can be handed in."""
    return is_pair(told) and is_place(told[0]) and is_whole(told[1], -QUICKEST, QUICKEST)


def is_fraction(told, least_top):
    """Whether this is a (top, bottom) within the limits."""
    return is_pair(told) and is_whole(told[0], least_top, MOST_TOP) and is_whole(told[1], 1, MOST_BOTTOM)


def check_walkers(walkers):
    """Refuse what is no tuple of at most eight walkers."""
    if not isinstance(walkers, tuple):
        raise BadWalkers(0)
    for number, walker in enumerate(walkers):
        if number == MOST_WALKERS or not is_walker(walker):
            raise BadWalkers(number)


def check_place(place):
    """Refuse what is no place."""
    if not is_place(place):
        raise BadPlace("no whole number from -99 to 99")


def check_time(time):
    """Refuse what is no time."""
    if not is_fraction(time, 0):
        raise BadTime("no (top, bottom), top 0 to 99999, bottom 1 to 999")


def check_point(point):
    """Refuse what is no point."""
    if not is_fraction(point, -MOST_TOP):
        raise BadPoint("no (top, bottom), top -99999 to 99999, bottom 1 to 999")
