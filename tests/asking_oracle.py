"""What DOC.md tells of [6] to [8], worked out another way: by the spans of the oracle, at enough times.

Between two times at which two lines meet, each end goes straight on, so two ways of
growing are one if they're one at all such times, and at two more behind the last.
"""

from fractions import Fraction

from tests import oracle


def enough_times(walkers, start):
    times = oracle.turning_times(walkers, start)
    return times + [times[-1] + 1, times[-1] + 2]


def spans(walkers, start, times):
    return [oracle.span(walkers, start, time) for time in times]


def picked(walkers, numbers):
    return tuple(walkers[number] for number in numbers)


def spare(walkers, start):
    times = enough_times(walkers, start)
    whole = spans(walkers, start, times)
    numbers = range(len(walkers))
    return [
        number for number in numbers
        if spans(picked(walkers, [other for other in numbers if other != number]), start, times) == whole
    ]


def lean(walkers, start):
    left = list(range(len(walkers)))
    for number in range(len(walkers) - 1, -1, -1):
        times = enough_times(walkers, start)
        fewer = [other for other in left if other != number]
        if spans(picked(walkers, fewer), start, times) == spans(picked(walkers, left), start, times):
            left = fewer
    return left


def paces(walkers, start, number, place, time):
    found = []
    for pace in range(-9, 10):
        turned = list(walkers)
        turned[number] = (walkers[number][0], pace)
        low, high = known_by(tuple(turned), start, Fraction(*time))
        if low <= place <= high:
            found.append(pace)
    return found


def known_by(walkers, start, time):
    return oracle.span(walkers, start, time)


def first(walkers, one, other, place):
    times = []
    for start in (one, other):
        time = oracle.known(walkers, start, place)
        times.append(Fraction(10 ** 9) if time is None else Fraction(*time))
    if times[0] == times[1]:
        return None
    return times.index(min(times))


def fits(walkers, start, legs):
    """Whether the last of these legs can be behind those ahead of it."""
    number, begin, end = legs[-1]
    begin, end = Fraction(*begin), Fraction(*end)
    if not 0 <= number < len(walkers) or end < begin:
        return False
    point = oracle.at(walkers[number], begin)
    if len(legs) == 1:
        return point == start
    ahead, since, till = legs[-2]
    since, till = Fraction(*since), min(Fraction(*till), begin)
    reached = sorted([oracle.at(walkers[ahead], since), oracle.at(walkers[ahead], till)])
    return since <= till and reached[0] <= point <= reached[1]


def judged(walkers, start, place, legs):
    """What judged tells, or ("bad", number)."""
    for many in range(1, len(legs) + 1):
        if not fits(walkers, start, legs[:many]):
            return ("bad", many - 1)
    if not legs:
        return (0, 1) if place == start else None
    number, _, end = legs[-1]
    return oracle.told(Fraction(*end)) if oracle.at(walkers[number], Fraction(*end)) == place else None
