"""Sayings: which of them are bad, and what they say of each two lands."""

from regionsay.errors import BadSaying
from regionsay.tables import full_table, keep_ways
from regionsay.threes import WAYS

MOST_SAYINGS = 30
MOST_LANDS = 6
LONGEST_NAME = 8


def held(sayings):
    """The table of what is said: from each two lands, the lower one first, to the choice that is let."""
    refuse_bad(sayings)
    table = full_table(lands_said(sayings))
    for one, choice, other in sayings:
        keep_ways(table, one, other, choice)
    return table


def lands_said(sayings):
    """The names of the lands of sayings, rising."""
    return sorted({name for saying in sayings for name in (saying[0], saying[2])})


def refuse_bad(sayings):
    """Refuses, with BadSaying, sayings that are too many or of which one is bad."""
    if len(sayings) > MOST_SAYINGS:
        raise BadSaying(MOST_SAYINGS, "many")
    for at, saying in enumerate(sayings):
        why = _fault(sayings[:at], saying)
        if why is not None:
            raise BadSaying(at, why)


def can_be_alone(saying):
    """Whether a saying is good by itself."""
    return _fault([], saying) is None


def is_name(text):
    """Whether a text is a name."""
    return 1 <= len(text) <= LONGEST_NAME and all("a" <= sign <= "z" for sign in text)


def is_choice(texts):
    """Whether a tuple of texts is a choice."""
    return texts == tuple([way for way in WAYS if way in texts])


def _fault(ahead, saying):
    """The first word that is so of a saying behind good ones, None if it is good."""
    one, choice, other = saying
    if not is_name(one) or not is_name(other):
        return "name"
    if one == other:
        return "self"
    if not is_choice(choice):
        return "ways"
    if len(lands_said([*ahead, saying])) > MOST_LANDS:
        return "many"
    return None
