"""What is known, who knows it, from whom, and who drives the ends."""

from saidroad.checks import FARTHEST, check_place, check_point, check_time, check_walkers
from saidroad.course import course_from, point_of
from saidroad.ratios import is_below, lowest


def course_of(walkers, start):
    """The course of a rumour, of walkers and a start as they are handed in."""
    check_walkers(walkers)
    check_place(start)
    return course_from(walkers, start)


def stretch(walkers, start, time):
    """The (left end, right end) of what is known at a time."""
    course = course_of(walkers, start)
    check_time(time)
    return course.ends(time)


def known(walkers, start, place):
    """The first time at which a place knows; None, if it never does."""
    course = course_of(walkers, start)
    check_place(place)
    return course.known(place)


def learnt(walkers, start):
    """For each walker the first time at which it knows, or None."""
    found = []
    for knows in course_of(walkers, start).knows:
        if knows is None:
            found.append(None)
        else:
            found.append(knows[0])
    return found


def drivers(walkers, start):
    """The (left, right) lists of (time, walker): who drives that end, from when on."""
    course = course_of(walkers, start)
    return (course.left.drives, course.right.drives)


def tellers(walkers, start):
    """For each walker (time, point, by whom), or None for one who never knows."""
    course = course_of(walkers, start)
    found = []
    for walker, knows in zip(walkers, course.knows):
        if knows is None:
            found.append(None)
        else:
            time, teller = knows
            found.append((time, point_of(walker, time), teller))
    return found


def starts(walkers, time, left, right):
    """All places, rising, from which the stretch at this time has just these ends."""
    check_walkers(walkers)
    check_time(time)
    check_point(left)
    check_point(right)
    ends = (lowest(left[0], left[1]), lowest(right[0], right[1]))
    found = []
    for start in range(-FARTHEST, FARTHEST + 1):
        # No stretch leaves its start, so the others need not be tried.
        if not is_below((start, 1), left) and not is_below(right, (start, 1)):
            if course_from(walkers, start).ends(time) == ends:
                found.append(start)
    return found
