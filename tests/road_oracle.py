"""What DOC.md tells of a road, worked out another way: all deeds from the first on, each time anew.

Within a wait, the road is looked at whenever two lines meet: those of all who are there,
and the two places between which all was known as the wait began.
"""

from fractions import Fraction

from tests import oracle

THINGS = {"come": 2, "leave": 1, "turn": 2, "say": 1, "wait": 1}


class Cannot(Exception):
    """A deed that can't be done."""


class Picture:
    """A road behind some deeds."""

    def __init__(self, deeds):
        self.time = 0
        self.given = 0
        self.there = {}
        self.knowing = set()
        self.known = None
        for deed in deeds:
            getattr(self, deed[0])(*deed[1:])
            self.look(self.there)

    def demand(self, truth):
        if not truth:
            raise Cannot()

    def whole(self, told, low, high):
        self.demand(type(told) is int and low <= told <= high)

    def come(self, place, pace):
        self.whole(place, -99, 99)
        self.whole(pace, -9, 9)
        self.demand(len(self.there) < 8)
        self.there[self.given] = (place, pace)
        self.given += 1

    def leave(self, number):
        self.demand(type(number) is int and number in self.there)
        del self.there[number]
        self.knowing.discard(number)

    def turn(self, number, pace):
        self.demand(type(number) is int and number in self.there)
        self.whole(pace, -9, 9)
        self.there[number] = (self.there[number][0], pace)

    def say(self, place):
        self.whole(place, -99, 99)
        self.demand(self.known is None)
        self.known = (place, place)

    def wait(self, many):
        self.whole(many, 1, 99)
        lines = list(self.there.values())
        if self.known is not None:
            lines += [(self.known[0], 0), (self.known[1], 0)]
        times = {oracle.meets(one, other) for one in lines for other in lines} - {None}
        for time in sorted({time for time in times if time <= many} | {Fraction(many)}):
            self.look({number: (oracle.at(line, time), line[1]) for number, line in self.there.items()})
        self.there = {number: (place + many * pace, pace) for number, (place, pace) in self.there.items()}
        self.time += many

    def look(self, there):
        """Spread the ends to those who know, then let those know who are between the ends."""
        if self.known is None:
            return
        points = list(self.known) + [there[number][0] for number in self.knowing]
        self.known = (min(points), max(points))
        for number, (point, _) in there.items():
            if self.known[0] <= point <= self.known[1]:
                self.knowing.add(number)


def is_deed(told):
    return type(told) is tuple and told[:1] != () and type(told[0]) is str and THINGS.get(told[0]) == len(told) - 1


def whole(known):
    """Ends as a road tells them; they must be whole."""
    if known is None:
        return None
    assert all(Fraction(end).denominator == 1 for end in known)
    return (int(known[0]), int(known[1]))
