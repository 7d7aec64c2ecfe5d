"""The document's words on drawings, done a second time, slowly and by places, to test the program against."""

from itertools import combinations_with_replacement, product

WAYS = ("apart", "meets", "over", "same", "inrim", "incore", "hasrim", "hascore")
ROUND = {"inrim": "hasrim", "hasrim": "inrim", "incore": "hascore", "hascore": "incore"}


def kinds(names):
    """Every plot that is made of these names."""
    return [tuple(name for name, there in zip(names, picked) if there)
            for picked in product((False, True), repeat=len(names))]


def strips(names, longest):
    """Every strip of these names, of one plot up to the longest."""
    return [list(plots) for size in range(1, longest + 1) for plots in product(kinds(names), repeat=size)]


def places(drawing, name):
    return {(row, at) for row, strip in enumerate(drawing) for at, plot in enumerate(strip) if name in plot}


def around(drawing, place):
    row, at = place
    return {(row, by) for by in (at - 1, at + 1) if 0 <= by < len(drawing[row])}


def rim_or_core(drawing, inner, outer):
    for place in inner:
        if around(drawing, place) - outer:
            return "rim"
    return "core"


def seen(drawing, one, other):
    ones, others = places(drawing, one), places(drawing, other)
    if ones == others:
        return "same"
    if ones <= others:
        return "in" + rim_or_core(drawing, ones, others)
    if others <= ones:
        return "has" + rim_or_core(drawing, others, ones)
    if ones & others:
        return "over"
    if any(around(drawing, place) & others for place in ones):
        return "meets"
    return "apart"


def sight(drawing):
    names = sorted({name for strip in drawing for plot in strip for name in plot})
    return {(one, other): seen(drawing, one, other) for one in names for other in names if one < other}


def trimmed(drawing):
    left_out = []
    for at in range(len(drawing)):
        rest = [strip for by, strip in enumerate(drawing) if by not in left_out and by != at]
        names = {name for strip in rest for plot in strip for name in plot}
        if names == {name for strip in drawing for plot in strip for name in plot}:
            if sight(rest) == sight(drawing):
                left_out.append(at)
    return [strip for at, strip in enumerate(drawing) if at not in left_out]


def plot_may_stand(plot, one, way, other):
    if way == "same":
        return (one in plot) == (other in plot)
    if way in ("apart", "meets"):
        return not (one in plot and other in plot)
    if way in ("inrim", "incore"):
        return other in plot or one not in plot
    if way in ("hasrim", "hascore"):
        return one in plot or other not in plot
    return True


def pair_may_stand(left, right, one, way, other):
    for plot, beside in ((left, right), (right, left)):
        if way == "apart" and one in plot and other in beside:
            return False
        if way == "incore" and one in plot and other not in beside:
            return False
        if way == "hascore" and other in plot and one not in beside:
            return False
    return True


def fullest(names, said):
    """All strips of one and two plots that break none of what is said, as one drawing.

    A drawing may be cut into its single plots and its pairs of neighbours without a change of what is
    seen, and a strip that breaks nothing does no harm. So if this drawing does not show all that is
    said, none does.
    """
    plots = [plot for plot in kinds(names) if all(plot_may_stand(plot, *told) for told in said)]
    pairs = [[left, right] for left, right in combinations_with_replacement(plots, 2)
             if all(pair_may_stand(left, right, *told) for told in said)]
    alone = [[plot] for plot in plots if not any(plot in pair for pair in pairs)]
    return alone + pairs


def held(sayings):
    """What is said, as a dict from each two names, both ways round, to a set of ways."""
    names = sorted({name for one, _, other in sayings for name in (one, other)})
    table = {}
    for one in names:
        for other in names:
            if one != other:
                table[one, other] = {way for way in WAYS if all(lets(said, one, way, other) for said in sayings)}
    return table


def lets(saying, one, way, other):
    if (saying[0], saying[2]) == (one, other):
        return way in saying[1]
    if (saying[0], saying[2]) == (other, one):
        return ROUND.get(way, way) in saying[1]
    return True


def narrow(led, table, one, middle, other):
    """Narrows such a table by three lands, where led tells what two ways lead to."""
    through = {way for first in table[one, middle] for last in table[middle, other] for way in led(first, last)}
    gone = table[one, other] - through
    table[one, other] = table[one, other] - gone
    table[other, one] = table[other, one] - {ROUND.get(way, way) for way in gone}
    return bool(gone)


def told(table):
    """Such a table as the document tells tables."""
    return {(one, other): in_order(ways) for (one, other), ways in table.items() if one < other}


def in_order(ways):
    return tuple(way for way in WAYS if way in ways)
