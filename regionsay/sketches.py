"""Drawings that are made from tables in which each two lands have just one way."""

from regionsay.drawings import trimmed
from regionsay.tables import ways_in

AROUND = ("same", "inrim", "incore")


def sketch(names, table):
    """A drawing of just these lands, each two of which lie in the one way that the table has for them.

    The table must be one in which no narrowing takes a way. Then these plots bring nothing with them that it
    does not tell: with a land, all lands around it; beside a plot of it, all lands around it but at its rim.
    """
    strips = [[_plot(_around(names, table, one)), _plot(_well_around(names, table, one))] for one in names]
    for one, other in table:
        if table[(one, other)] == ("over",):
            strips.append([_plot(_around(names, table, one) + _around(names, table, other))])
        if table[(one, other)] == ("meets",):
            strips.append([_plot(_around(names, table, one) + _well_around(names, table, other)),
                           _plot(_around(names, table, other) + _well_around(names, table, one))])
    return trimmed(strips)


def _around(names, table, one):
    """The lands that have all plots of this one."""
    return [name for name in names if ways_in(table, one, name)[0] in AROUND]


def _well_around(names, table, one):
    """The lands that have all plots of this one, and all their neighbours."""
    return [name for name in names if ways_in(table, one, name) == ("incore",)]


def _plot(names):
    return tuple(sorted(set(names)))
