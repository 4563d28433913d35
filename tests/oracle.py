"""What DOC.md tells of the spreading, worked out another way, to check the program by.

Who knows from when on is found by handing the rumour on at each meeting of two
walkers, and at the start, till nobody learns sooner. All else is read off the
positions of those who know, just ahead of, at and behind each such time.
"""

from fractions import Fraction


def told(fraction):
    """A Fraction as the program tells it."""
    return (fraction.numerator, fraction.denominator)


def at(walker, time):
    return walker[0] + walker[1] * time


def meets(one, other):
    """The time of a meeting of unlike paces, or None."""
    if one[1] == other[1]:
        return None
    time = Fraction(other[0] - one[0], one[1] - other[1])
    return time if time >= 0 else None


def learn_times(walkers, start):
    """For each walker the Fraction at which it knows, or None."""
    best = [None] * len(walkers)
    for number, walker in enumerate(walkers):
        best[number] = Fraction(0) if walker[0] == start else meets(walker, (start, 0))
    changed = True
    while changed:
        changed = False
        for one, walker in enumerate(walkers):
            for other, carrier in enumerate(walkers):
                if best[other] is None:
                    continue
                time = best[other] if walker == carrier else meets(walker, carrier)
                if time is not None and time >= best[other] and (best[one] is None or time < best[one]):
                    best[one] = time
                    changed = True
    return best


def span(walkers, start, time):
    """The ends at a time, as Fractions."""
    points = [Fraction(start)]
    for walker, since in zip(walkers, learn_times(walkers, start)):
        if since is not None and since <= time:
            points += [at(walker, since), at(walker, time)]
    return min(points), max(points)


def stretch(walkers, start, time):
    low, high = span(walkers, start, Fraction(*time))
    return (told(low), told(high))


def known(walkers, start, place):
    """A place knows when a walker who knows is there: at its learning, or later on its way."""
    times = [Fraction(0)] if place == start else []
    for walker, since in zip(walkers, learn_times(walkers, start)):
        if since is None:
            continue
        if at(walker, since) == place:
            times.append(since)
        if walker[1]:
            time = Fraction(place - walker[0], walker[1])
            if time >= since:
                times.append(time)
    return told(min(times)) if times else None


def learnt(walkers, start):
    return [None if time is None else told(time) for time in learn_times(walkers, start)]


def turning_times(walkers, start):
    """Time 0 and all times at which two lines meet, rising: the driver is the same between two of them."""
    lines = list(walkers) + [(start, 0)]
    times = {meets(one, other) for one in lines for other in lines}
    return sorted((times - {None}) | {Fraction(0)})


def driver_at(walkers, start, time, way):
    """Who drives an end at a time that is no turning time: the first who is at it, knows and goes out."""
    low, high = span(walkers, start, time)
    end = low if way < 0 else high
    for number, since in enumerate(learn_times(walkers, start)):
        walker = walkers[number]
        if since is not None and since < time and walker[1] * way > 0 and at(walker, time) == end:
            return number
    return None


def drives(walkers, start, way):
    """The (time, walker) list of one end."""
    found = []
    times = turning_times(walkers, start)
    for time, later in zip(times, times[1:] + [times[-1] + 2]):
        number = driver_at(walkers, start, (time + later) / 2, way)
        if number is not None and (not found or found[-1][1] != number):
            found.append((told(time), number))
    return found


def drivers(walkers, start):
    return (drives(walkers, start, -1), drives(walkers, start, 1))


def tellers(walkers, start):
    found = []
    times = turning_times(walkers, start)
    for walker, since in zip(walkers, learn_times(walkers, start)):
        if since is None:
            found.append(None)
            continue
        teller = None
        if since > 0:
            before = max(time for time in times if time < since)
            teller = driver_at(walkers, start, (before + since) / 2, -1 if walker[0] < start else 1)
        found.append((told(since), told(at(walker, since)), teller))
    return found


def starts(walkers, time, left, right):
    ends = (told(Fraction(*left)), told(Fraction(*right)))
    return [start for start in range(-99, 100) if stretch(walkers, start, time) == ends]
