"""Papers, which show that no drawing keeps some sayings."""

from regionsay.sayings import held, lands_said
from regionsay.tables import keep_ways, narrow_table, table_copy, ways_in


def is_paper(sayings, paper):
    """Whether a paper rightly shows that no drawing keeps the sayings."""
    # A list of what is still to be looked at, since papers may lie deep within each other.
    waiting = [(held(sayings), paper)]
    names = lands_said(sayings)
    while waiting:
        table, (steps, end) = waiting.pop()
        if not _names_fit(names, steps, end):
            return False
        for one, middle, other in steps:
            narrow_table(table, one, middle, other)
        tables = _split(table, end[1], end[2])
        papers = _papers_within(end)
        if len(papers) != len(tables):
            return False
        waiting.extend(list(zip(tables, papers)))
    return True


def _names_fit(names, steps, end):
    """Whether steps and an end name lands alone, each step three and the end two of them."""
    for one, middle, other in steps:
        if not _unlike_lands(names, [one, middle, other]):
            return False
    return _unlike_lands(names, [end[1], end[2]])


def _unlike_lands(names, told):
    return len(set(told)) == len(told) and all(name in names for name in told)


def _split(table, one, other):
    """For each way of the one to the other, in order, the table with this way alone for them."""
    tables = []
    for way in ways_in(table, one, other):
        alone = table_copy(table)
        keep_ways(alone, one, other, (way,))
        tables.append(alone)
    return tables


def _papers_within(end):
    """The papers of an end. One that tells "none" has none, and so is right just if there is no way."""
    if end[0] == "cases":
        return end[3]
    return []
