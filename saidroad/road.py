"""A road that is gone on by deeds, there and back."""

from saidroad.errors import BadDeed, Halted
from saidroad.scenes import Scene, after, is_deed


class Road:
    """A road, at first at time 0, with nobody, and nothing known."""

    def __init__(self):
        self.scene = Scene(0, 0, {}, None)
        # Each deed that was done, with the scene ahead of it.
        self.past = []

    def do(self, deed):
        """Do a deed; tell the (left end, right end) of what is known behind it, or None."""
        if not is_deed(deed):
            raise BadDeed(0)
        scene = after(self.scene, deed)
        self.past.append((deed, self.scene))
        self.scene = scene
        return scene.reach

    def back(self):
        """Take the last deed back; tell whether there was one."""
        if len(self.past) == 0:
            return False
        _, self.scene = self.past.pop()
        return True

    def batch(self, deeds, *, keep=True):
        """Do a list of deeds; tell what each of them tells."""
        check_deeds(deeds)
        told = []
        for number, deed in enumerate(deeds):
            try:
                told.append(self.do(deed))
            except BadDeed:
                if keep is True:
                    raise Halted(number, number) from None
                for _ in range(number):
                    self.back()
                raise Halted(number, 0) from None
        return told

    def knowing(self):
        """The numbers of those who are there and know, rising."""
        return [number for number, (place, _) in self.scene.there.items() if self.scene.is_known(place)]

    def deeds(self):
        """The deeds that were done and not taken back."""
        return [deed for deed, _ in self.past]

    def walkers(self):
        """{number: (place, pace)} of those who are there."""
        return dict(self.scene.there)

    def stands(self):
        """The time, and what is known."""
        return ((self.scene.time, 1), self.scene.reach)


def check_deeds(deeds):
    """Refuse what is no list of deeds."""
    if not isinstance(deeds, list):
        raise BadDeed(0)
    for number, deed in enumerate(deeds):
        if not is_deed(deed):
            raise BadDeed(number)
