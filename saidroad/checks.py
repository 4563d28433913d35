"""What can be handed in: each check refuses what can't be."""

from saidroad.errors import BadPlace, BadPoint, BadTime, BadWalkers, NoWalker

MOST_WALKERS = 8
FARTHEST = 99
QUICKEST = 9
MOST_TOP = 99999
MOST_BOTTOM = 999


def is_number(told):
    """Whether this is a number; True and False are none."""
    return isinstance(told, int) and not isinstance(told, bool)


def is_whole(told, low, high):
    """Whether this is a number from low to high."""
    return is_number(told) and low <= told <= high


def is_pair(told):
    """Whether this is a tuple of two."""
    return isinstance(told, tuple) and len(told) == 2


def is_place(told):
    """Whether this is a place that can be handed in."""
    return is_whole(told, -FARTHEST, FARTHEST)


def is_pace(told):
    """Whether this is a pace that can be handed in."""
    return is_whole(told, -QUICKEST, QUICKEST)


def is_walker(told):
    """Whether this is a (place, pace) that can be handed in."""
    return is_pair(told) and is_place(told[0]) and is_pace(told[1])


def is_fraction(told, least_top):
    """Whether this is a (top, bottom) within the limits."""
    return is_pair(told) and is_whole(told[0], least_top, MOST_TOP) and is_whole(told[1], 1, MOST_BOTTOM)


def is_time(told):
    """Whether this is a time that can be handed in."""
    return is_fraction(told, 0)


def is_number_of(told, walkers):
    """Whether one of the walkers has this number."""
    return is_whole(told, 0, len(walkers) - 1)


def check_walkers(walkers):
    """Refuse what is no tuple of at most eight walkers."""
    if not isinstance(walkers, tuple):
        raise BadWalkers(0)
    for number, walker in enumerate(walkers):
        if number == MOST_WALKERS or not is_walker(walker):
            raise BadWalkers(number)


def check_place(place):
    """Refuse what is no place."""
    if not is_place(place):
        raise BadPlace("no whole number from -99 to 99")


def check_time(time):
    """Refuse what is no time."""
    if not is_time(time):
        raise BadTime("no (top, bottom), top 0 to 99999, bottom 1 to 999")


def check_point(point):
    """Refuse what is no point."""
    if not is_fraction(point, -MOST_TOP):
        raise BadPoint("no (top, bottom), top -99999 to 99999, bottom 1 to 999")


def check_number(number, walkers):
    """Refuse a number that no walker has."""
    if not is_number_of(number, walkers):
        raise NoWalker("no walker has this number")
