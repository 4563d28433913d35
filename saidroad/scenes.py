"""How a road stands at a whole time, and how each deed takes it on.

A deed makes a new scene and changes none, so that the one ahead of it is there to go back to.
"""

from saidroad.checks import MOST_WALKERS, is_number, is_pace, is_place, is_walker, is_whole
from saidroad.course import Course
from saidroad.errors import BadDeed

LONGEST_WAIT = 99


class Scene:
    """A whole time, how many numbers were given, who is there, and the ends of what is known, or None.

    Who is there is told as {number: (place, pace)}, the place being the one at this time.
    """

    def __init__(self, time, given, there, reach):
        self.time = time
        self.given = given
        self.there = there
        self.reach = reach

    def is_there(self, number):
        """Whether the walker of this number is there."""
        return is_number(number) and number in self.there

    def is_known(self, place):
        """Whether this place is known."""
        return self.reach is not None and self.reach[0] <= place <= self.reach[1]


def is_deed(told):
    """Whether this is a tuple of a deed's word and so many things, whatever things."""
    if not isinstance(told, tuple):
        return False
    match told:
        case ("come" | "turn", _, _):
            return True
        case ("leave" | "say" | "wait", _):
            return True
    return False


def after(scene, deed):
    """The scene behind a deed."""
    match deed:
        case ("come", place, pace):
            return come(scene, place, pace)
        case ("leave", number):
            return leave(scene, number)
        case ("turn", number, pace):
            return turn(scene, number, pace)
        case ("say", place):
            return say(scene, place)
        case (_, many):
            return wait(scene, many)


def come(scene, place, pace):
    """A walker comes."""
    if not is_walker((place, pace)) or len(scene.there) == MOST_WALKERS:
        raise BadDeed(0)
    there = dict(scene.there)
    there[scene.given] = (place, pace)
    return Scene(scene.time, scene.given + 1, there, scene.reach)


def leave(scene, number):
    """A walker leaves."""
    if not scene.is_there(number):
        raise BadDeed(0)
    there = dict(scene.there)
    del there[number]
    return Scene(scene.time, scene.given, there, scene.reach)


def turn(scene, number, pace):
    """A walker goes on from where it is at another pace."""
    if not scene.is_there(number) or not is_pace(pace):
        raise BadDeed(0)
    there = dict(scene.there)
    there[number] = (there[number][0], pace)
    return Scene(scene.time, scene.given, there, scene.reach)


def say(scene, place):
    """The rumour is known at a place."""
    if not is_place(place) or scene.reach is not None:
        raise BadDeed(0)
    return Scene(scene.time, scene.given, scene.there, (place, place))


def wait(scene, many):
    """So much time goes by."""
    if not is_whole(many, 1, LONGEST_WAIT):
        raise BadDeed(0)
    there = {number: (place + many * pace, pace) for number, (place, pace) in scene.there.items()}
    return Scene(scene.time + many, scene.given, there, reach_after(scene, many))


def reach_after(scene, many):
    """The ends of what is known when so much time has gone by."""
    if scene.reach is None:
        return None
    left, right = Course(tuple(scene.there.values()), scene.reach[0], scene.reach[1]).ends((many, 1))
    # At whole times the ends are whole: each is where somebody is, or where it was when the wait began.
    return (left[0], right[0])
