"""How a rumour goes along the road: who knows from when on, and who drives the ends.

A line is a (place, pace), as a walker is one: who or what goes along it is at
place and t times pace together at time t. Each end of what is known goes along
a line at any time: it stands where it began, or goes as the walker who drives it.
"""

from saidroad.ratios import ZERO, is_below, least, lowest, most


def point_of(line, time):
    """The point of a line at a time."""
    return lowest(line[0] * time[1] + line[1] * time[0], time[1])


def meeting(one, other):
    """The time at which two lines of unlike paces meet; it may be below 0."""
    return lowest(other[0] - one[0], one[1] - other[1])


class End:
    """One end of what is known: the way that leads out of it, and who drove it from when on."""

    def __init__(self, begin, way):
        self.begin = begin
        self.way = way
        self.line = (begin, 0)
        self.driver = None
        self.drives = []

    def lead(self, walker):
        """By how much the end goes out more quickly than the walker; below 0, if less quickly."""
        return self.way * (self.line[1] - walker[1])

    def is_level(self, walker, time):
        """Whether the walker is at the end at this time."""
        return point_of(walker, time) == point_of(self.line, time)

    def take(self, time, number, walker):
        """From this time on the walker of this number drives."""
        self.line = walker
        self.driver = number
        self.drives.append((time, number))


class Course:
    """The course of a rumour that is known between two places at time 0.

    `knows` has, for each walker, (time, by whom) or None.
    """

    def __init__(self, walkers, left, right):
        self.lines = walkers
        self.left = End(left, -1)
        self.right = End(right, 1)
        self.knows = [None for _ in walkers]
        self.tell_those_inside()
        time = ZERO
        while time is not None:
            self.tell(time)
            self.drive(self.left, time)
            self.drive(self.right, time)
            time = self.next_time()

    def is_begun(self, place):
        """Whether the place is known at time 0."""
        return self.left.begin <= place <= self.right.begin

    def tell_those_inside(self):
        """Let those know who are between the ends at time 0."""
        for number, walker in enumerate(self.lines):
            if self.is_begun(walker[0]):
                self.knows[number] = (ZERO, None)

    def entry(self, walker):
        """The end at which a walker who doesn't know could come in."""
        # Who doesn't know was outside at each time till now, so still is on the side where it began.
        if walker[0] < self.left.begin:
            return self.left
        return self.right

    def tell(self, time):
        """Let those know who come in at this time."""
        for number, walker in enumerate(self.lines):
            if self.knows[number] is None:
                end = self.entry(walker)
                if end.is_level(walker, time):
                    self.knows[number] = (time, end.driver)

    def drive(self, end, time):
        """Let the quickest of those who are level with the end drive it, if it's quicker than the end."""
        # All who are level with an end know by now: they have been told first.
        quickest = None
        lead = 0
        for number, walker in enumerate(self.lines):
            if end.lead(walker) < lead and end.is_level(walker, time):
                quickest = number
                lead = end.lead(walker)
        if quickest is not None:
            end.take(time, quickest, self.lines[quickest])

    def next_time(self):
        """The next time at which a walker comes in, or catches up with an end; None, if there is none."""
        times = []
        for number, walker in enumerate(self.lines):
            if self.knows[number] is None:
                end = self.entry(walker)
                if end.lead(walker) > 0:
                    times.append(meeting(walker, end.line))
            else:
                for end in (self.left, self.right):
                    if end.lead(walker) < 0:
                        times.append(meeting(walker, end.line))
        return least(times)

    def is_told(self, number, time):
        """Whether the walker of this number knows at a time."""
        knows = self.knows[number]
        return knows is not None and not is_below(time, knows[0])

    def ends(self, time):
        """The left and the right end of what is known at a time, each a fraction."""
        points = [(self.left.begin, 1), (self.right.begin, 1)]
        for number, walker in enumerate(self.lines):
            if self.is_told(number, time):
                points.append(point_of(walker, time))
        return (least(points), most(points))

    def known(self, place):
        """The first time at which a place knows, or None."""
        if self.is_begun(place):
            return ZERO
        times = []
        for number, walker in enumerate(self.lines):
            # Where one stands, away from where all began, one who goes comes as soon as the place knows.
            if walker[1] != 0:
                time = meeting(walker, (place, 0))
                if self.is_told(number, time):
                    times.append(time)
        return least(times)

    def bringer(self, place, time):
        """The first walker who is at the place at the first time at which it knows; None, if none is."""
        # Who is there then knows, too.
        for number, walker in enumerate(self.lines):
            if point_of(walker, time) == (place, 1):
                return number
        return None


def course_from(walkers, start):
    """The course of a rumour that is known at the start alone at time 0."""
    return Course(walkers, start, start)
