"""What can be: drawings in which sayings hold, and papers where there is none."""

from regionsay.errors import NoDrawing, refuse_unknown
from regionsay.sayings import held, lands_said, refuse_bad
from regionsay.solving import solved
from regionsay.tables import keep_ways, table_copy
from regionsay.threes import WAYS


def settled(sayings):
    """("drawn", drawing) of just the lands of the sayings in which all hold, or ("none", paper)."""
    return solved(held(sayings))


def may(sayings, one, other):
    """A list of (way, told) for all ways of the one to the other, where told is as settled tells."""
    table = held(sayings)
    refuse_unknown(lands_said(sayings), [one, other])
    ways = []
    for way in WAYS:
        alone = table_copy(table)
        keep_ways(alone, one, other, (way,))
        ways.append((way, solved(alone)))
    return ways


def follows(sayings, saying):
    """("yes", paper) if a saying holds wherever the others do, or ("no", drawing) in which it alone does not."""
    refuse_bad([*sayings, saying])
    one, choice, other = saying
    rest = tuple([way for way in WAYS if way not in choice])
    word, told = settled([*sayings, (one, rest, other)])
    if word == "drawn":
        return ("no", told)
    return ("yes", told)


def example(one, other, third):
    """A drawing in which "a" lies to "b" in the one way, "b" to "c" in the other, "a" to "c" in the third."""
    word, told = settled([("a", (one,), "b"), ("b", (other,), "c"), ("a", (third,), "c")])
    if word == "none":
        raise NoDrawing(told)
    return told
