"""A book of sayings that come and go."""

from regionsay.drawings import holds, lands
from regionsay.errors import BadSaying, NoDrawing, NoSaying, refuse_unknown
from regionsay.sayings import lands_said, refuse_bad
from regionsay.search import may, settled

MOST_STANDING = 20


class Book:
    """Sayings that stand, each by its number, and a drawing in which all of them hold."""

    def __init__(self):
        self._sayings = {}
        self._next = 0
        self._kept = []

    def say(self, saying):
        """Lets a saying more stand, and tells its number."""
        if len(self._sayings) >= MOST_STANDING:
            raise BadSaying(MOST_STANDING, "many")
        sayings = [*self._said(), saying]
        refuse_bad(sayings)
        self._kept = _drawing_kept(self._kept, sayings)
        number = self._next
        self._sayings[number] = saying
        self._next += 1
        return number

    def unsay(self, number):
        """Takes the saying of a number back."""
        if number not in self._sayings:
            raise NoSaying(number)
        del self._sayings[number]
        self._kept = _drawing_kept(self._kept, self._said())

    def standing(self):
        """A list of (number, saying) that stand, rising."""
        return list(self._sayings.items())

    def drawing(self):
        """The drawing that is kept: of just the lands that stand, and in it all sayings hold."""
        return [list(strip) for strip in self._kept]

    def ask(self, one, other):
        """The choice of all ways in which the one land may lie to the other."""
        sayings = self._said()
        refuse_unknown(lands_said(sayings), [one, other])
        if one == other:
            return ("same",)
        return tuple([way for way, (word, _) in may(sayings, one, other) if word == "drawn"])

    def _said(self):
        return list(self._sayings.values())


def _drawing_kept(drawing, sayings):
    """This drawing if it is still one of just the lands of the sayings, and in it all hold; else another one."""
    if lands(drawing) == lands_said(sayings) and all(holds(drawing, saying) for saying in sayings):
        return drawing
    word, told = settled(sayings)
    if word == "none":
        raise NoDrawing(told)
    return told
