"""What is seen in a drawing: its lands, and how each two of them lie."""

from regionsay.errors import refuse_unknown
from regionsay.threes import turned


def lands(drawing):
    """The names of the lands of a drawing, rising."""
    return sorted({name for strip in drawing for plot in strip for name in plot})


def seen(drawing, one, other):
    """The way in which the one land lies to the other."""
    refuse_unknown(lands(drawing), [one, other])
    return _way(_plots(drawing), _neighbours(drawing), one, other)


def sight(drawing):
    """All ways that are seen: a dict from each two names, the lower one first, to the way."""
    names = lands(drawing)
    plots = _plots(drawing)
    neighbours = _neighbours(drawing)
    ways = {}
    for at, one in enumerate(names):
        for other in names[at + 1:]:
            ways[(one, other)] = _way(plots, neighbours, one, other)
    return ways


def holds(drawing, saying):
    """Whether a saying holds in a drawing."""
    one, choice, other = saying
    return seen(drawing, one, other) in choice


def trimmed(drawing):
    """The drawing without the strips that add nothing to its lands and its sight."""
    names = lands(drawing)
    ways = sight(drawing)
    kept = [list(strip) for strip in drawing]
    at = 0
    while at < len(kept):
        rest = kept[:at] + kept[at + 1:]
        if lands(rest) == names and sight(rest) == ways:
            kept = rest
        else:
            at += 1
    return kept


def _plots(drawing):
    return [plot for strip in drawing for plot in strip]


def _neighbours(drawing):
    """All pairs (plot, neighbour), each two neighbours both ways round."""
    pairs = []
    for strip in drawing:
        for left, right in zip(strip, strip[1:]):
            pairs.append((left, right))
            pairs.append((right, left))
    return pairs


def _way(plots, neighbours, one, other):
    one_sticks_out = any(one in plot and other not in plot for plot in plots)
    other_sticks_out = any(other in plot and one not in plot for plot in plots)
    if not one_sticks_out and not other_sticks_out:
        return "same"
    if not one_sticks_out:
        return _way_within(neighbours, one, other)
    if not other_sticks_out:
        return turned(_way_within(neighbours, other, one))
    if any(one in plot and other in plot for plot in plots):
        return "over"
    if any(one in plot and other in beside for plot, beside in neighbours):
        return "meets"
    return "apart"


def _way_within(neighbours, inner, outer):
    """How a land lies to another one that has all its plots, and more."""
    if any(inner in plot and outer not in beside for plot, beside in neighbours):
        return "inrim"
    return "incore"
