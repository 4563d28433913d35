"""What is asked of a rumour: who could be left out, what brings it in time, and by which carriers."""

from saidroad.checks import QUICKEST, check_number, check_place, check_time, check_walkers
from saidroad.course import course_from, point_of
from saidroad.errors import NeverKnown
from saidroad.legs import check_chain
from saidroad.ratios import ZERO, is_below, lowest


def lines_of(end, walkers):
    """On which line an end goes, from when on, in turn."""
    return [(time, walkers[number]) for time, number in end.drives]


def growth(walkers, start):
    """How what is known grows: alike for two rumours if they know the same at each time."""
    # Each line goes out more quickly than the one ahead of it, so no two such lists go the same way.
    course = course_from(walkers, start)
    return (lines_of(course.left, walkers), lines_of(course.right, walkers))


def spare(walkers, start):
    """The numbers of the walkers, rising, without each of whom alone the same is known at each time."""
    check_walkers(walkers)
    check_place(start)
    whole = growth(walkers, start)
    found = []
    for number in range(len(walkers)):
        if growth(walkers[:number] + walkers[number + 1:], start) == whole:
            found.append(number)
    return found


def lean(walkers, start):
    """The numbers of those left, rising, if each who isn't needed is left out, from the last one on."""
    check_walkers(walkers)
    check_place(start)
    whole = growth(walkers, start)
    left = list(range(len(walkers)))
    for number in reversed(range(len(walkers))):
        others = [other for other in left if other != number]
        if growth(tuple([walkers[other] for other in others]), start) == whole:
            left = others
    return left


def paces(walkers, start, number, place, time):
    """All paces of this walker, rising, by which the place knows by that time."""
    check_walkers(walkers)
    check_place(start)
    check_number(number, walkers)
    check_place(place)
    check_time(time)
    found = []
    for pace in range(-QUICKEST, QUICKEST + 1):
        walker = (walkers[number][0], pace)
        since = course_from(walkers[:number] + (walker,) + walkers[number + 1:], start).known(place)
        if since is not None and not is_below(time, since):
            found.append(pace)
    return found


def is_sooner(one, other):
    """Whether the one time is ahead of the other; None is never."""
    return one is not None and (other is None or is_below(one, other))


def first(walkers, one, other, place):
    """By the rumour of which of two starts, 0 or 1, the place knows first; None, if by none of them."""
    check_walkers(walkers)
    check_place(one)
    check_place(other)
    check_place(place)
    by_one = course_from(walkers, one).known(place)
    by_other = course_from(walkers, other).known(place)
    if is_sooner(by_one, by_other):
        return 0
    if is_sooner(by_other, by_one):
        return 1
    return None


def judged(walkers, start, place, told):
    """When the place knows by this chain; None, if it doesn't."""
    check_walkers(walkers)
    check_place(start)
    check_place(place)
    check_chain(walkers, start, told)
    if len(told) == 0:
        point, time = (start, 1), ZERO
    else:
        number, _, time = told[-1]
        point = point_of(walkers[number], time)
    if point == (place, 1):
        return lowest(time[0], time[1])
    return None


def chain(walkers, start, place):
    """A chain by which the place knows as soon as it does."""
    check_walkers(walkers)
    check_place(start)
    check_place(place)
    course = course_from(walkers, start)
    time = course.known(place)
    if time is None:
        raise NeverKnown("this place never knows")
    if place == start:
        return []
    legs = []
    number = course.bringer(place, time)
    while number is not None:
        begin, teller = course.knows[number]
        legs.append((number, begin, time))
        # The teller is where this leg begins just then; where there is none, that is the start.
        time, number = begin, teller
    return list(reversed(legs))
