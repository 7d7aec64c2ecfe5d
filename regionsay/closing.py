"""What may still be when all that is said is held against itself by threes."""

from regionsay.errors import refuse_unknown
from regionsay.sayings import held, lands_said
from regionsay.tables import narrow_table, table_copy, ways_in


class Closing:
    """A table that is narrowed by threes, at first that of what is said."""

    def __init__(self, sayings):
        self._table = held(sayings)
        self._names = lands_said(sayings)

    def narrow(self, one, middle, other):
        """Takes the ways of the one to the other to which the middle does not lead; tells whether one went."""
        refuse_unknown(self._names, [one, middle, other])
        return narrow_table(self._table, one, middle, other)

    def ways(self, one, other):
        """The choice of the one to the other now."""
        refuse_unknown(self._names, [one, other])
        return ways_in(self._table, one, other)

    def table(self):
        """All choices now: a dict from each two names, the lower one first."""
        return table_copy(self._table)

    def close(self):
        """Narrows till no way goes any more, and tells the steps, each of which took a way."""
        steps = []
        went = True
        while went:
            went = False
            for one, middle, other in _threes(self._names):
                if narrow_table(self._table, one, middle, other):
                    steps.append((one, middle, other))
                    went = True
        return steps


def closed(sayings):
    """The table of what is said when no narrowing takes a way any more."""
    closing = Closing(sayings)
    closing.close()
    return closing.table()


def _threes(names):
    """All threes to narrow by. Told from its other end a three takes the same ways, so one way round is enough."""
    return [(one, middle, other) for one in names for middle in names for other in names
            if one < other and middle != one and middle != other]
