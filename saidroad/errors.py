"""Everything that the program refuses is refused by one of these."""


class RoadError(ValueError):
    """Any refusal."""


class BadWalkers(RoadError):
    """Walkers that can't be; the number of the first one."""

    def __init__(self, number):
        super().__init__(f"walker {number} can't be")
        self.number = number


class BadPlace(RoadError):
    """No place from -99 to 99."""


class BadTime(RoadError):
    """No time (top, bottom), top 0 to 99999, bottom 1 to 999."""


class BadPoint(RoadError):
    """No point (top, bottom), top -99999 to 99999, bottom 1 to 999."""


class NoWalker(RoadError):
    """A number that no walker has."""


class NeverKnown(RoadError):
    """A place that never knows."""


class BadChain(RoadError):
    """A chain that can't be; the number of its first leg that can't."""

    def __init__(self, number):
        super().__init__(f"leg {number} can't be")
        self.number = number


class BadDeed(RoadError):
    """What is no deed, or can't be done; its number."""

    def __init__(self, number):
        super().__init__(f"deed {number} can't be")
        self.number = number


class Halted(RoadError):
    """A batch that could not go on; the deed's number, and how many deeds stand."""

    def __init__(self, number, done):
        super().__init__(f"deed {number} can't be done, {done} stand")
        self.number = number
        self.done = done


class BadText(RoadError):
    """A text that can't be read; its first row that isn't as rows are."""

    def __init__(self, row):
        super().__init__(f"row {row} can't be")
        self.row = row
