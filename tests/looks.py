"""Looks at what was told: drawings by the document's own words, refusals, and lists that are shared."""

import by_words
from regionsay.errors import LandError


def names_of(sayings):
    return sorted({name for one, _, other in sayings for name in (one, other)})


def holds(drawing, saying):
    one, choice, other = saying
    return by_words.seen(drawing, one, other) in choice


def is_drawing(drawing, names):
    """Whether this is a drawing of just these lands, and such a one as may be handed in."""
    return (drawing.__class__ is list and len(drawing) <= 40
            and all(strip.__class__ is list and 1 <= len(strip) <= 8 for strip in drawing)
            and all(plot.__class__ is tuple and plot == tuple(sorted(set(plot))) for strip in drawing for plot in strip)
            and {name for strip in drawing for plot in strip for name in plot} == set(names))


def keeps(drawing, sayings, names=None):
    """Whether a drawing is one of just these lands, or else those of the sayings, in which all of these hold."""
    names = names_of(sayings) if names is None else names
    return is_drawing(drawing, names) and all(holds(drawing, saying) for saying in sayings)


def refused(asked):
    """The name of the refusal of a call, and its fields; None if it is not refused."""
    try:
        asked()
    except LandError as refusal:
        return (refusal.__class__.__name__, *vars(refusal).values())
    return None


def lists_in(part):
    """All lists and dicts within what was told, itself included."""
    found = [part] if isinstance(part, (list, dict)) else []
    if isinstance(part, dict):
        part = list(part.values())
    if isinstance(part, (list, tuple)):
        for inner in part:
            found += lists_in(inner)
    return found


def shares_none(*parts):
    """Whether no list stands in two places of these."""
    found = [id(held) for part in parts for held in lists_in(part)]
    return len(found) == len(set(found))


def spoil(part):
    """Changes all lists and dicts within what was told."""
    for held in lists_in(part):
        if isinstance(held, list):
            held.append("spoiled")
            held.reverse()
        else:
            held.clear()


def steps_and_depth(paper):
    """How many steps a paper has in all, and how deep its cases are."""
    steps, end = paper
    within = [steps_and_depth(inner) for inner in end[3]] if end[0] == "cases" else []
    deepest = 1 + max([deep for _, deep in within]) if within else int(end[0] == "cases")
    return len(steps) + sum(many for many, _ in within), deepest
