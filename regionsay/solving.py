"""Whether a drawing keeps a table: it is narrowed by threes, split by the ways of two lands, narrowed again."""

from regionsay.pruning import pruned
from regionsay.sketches import sketch
from regionsay.tables import narrow_table, table_copy, ways_in


def solved(table):
    """("drawn", drawing) of just the lands of a table, as it lets, or ("none", paper) if there is none."""
    names = sorted({name for two in table for name in two})
    word, told = _solved(names, table_copy(table), list(table))
    if word == "none":
        told = pruned(told)
    return (word, told)


def _solved(names, table, changed):
    """As solved, of a table that may be changed and of which all but what was changed is narrowed already."""
    steps = _narrow_on(names, table, changed)
    unsettled = [two for two in table if len(table[two]) != 1]
    if not unsettled:
        return ("drawn", sketch(names, table))
    one, other = min(unsettled, key=lambda two: len(table[two]))
    papers = []
    for way in table[(one, other)]:
        alone = table_copy(table)
        alone[(one, other)] = (way,)
        word, told = _solved(names, alone, [(one, other)])
        if word == "drawn":
            return (word, told)
        papers.append(told)
    if not papers:
        return ("none", (steps, ("none", one, other)))
    return ("none", (steps, ("cases", one, other, papers)))


def _narrow_on(names, table, changed):
    """Narrows by what was changed till no way goes, or till two lands have none; tells the steps that took a way."""
    steps = []
    waiting = list(changed)
    while waiting:
        two = waiting.pop(0)
        for one, middle, other in _threes_by(names, two):
            if narrow_table(table, one, middle, other):
                steps.append((one, middle, other))
                waiting.append((one, other))
                if not ways_in(table, one, other):
                    return steps
    return steps


def _threes_by(names, two):
    """All threes by which the choice of these two narrows another one."""
    left, right = two
    threes = []
    for name in names:
        if name not in two:
            threes.append((left, right, name))
            threes.append((name, left, right))
    return threes
