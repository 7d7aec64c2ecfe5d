"""Which sayings cannot all hold, and which are needed."""

from regionsay.sayings import refuse_bad
from regionsay.search import follows, settled


def quarrel(sayings):
    """None if a drawing keeps all sayings; else (numbers, paper, drawings) of some that none keeps."""
    word, paper = settled(sayings)
    if word == "drawn":
        return None
    left = list(range(len(sayings)))
    for number in reversed(range(len(sayings))):
        word, told = settled(_picked(sayings, _without(left, number)))
        if word == "none":
            left = _without(left, number)
            paper = told
    drawings = []
    for number in left:
        _, drawing = settled(_picked(sayings, _without(left, number)))
        drawings.append(drawing)
    return (left, paper, drawings)


def needed(sayings):
    """(numbers, papers, drawings): which sayings are left when those are left out that follow from the others."""
    refuse_bad(sayings)
    left = list(range(len(sayings)))
    for number in reversed(range(len(sayings))):
        if _follows_from(sayings, _without(left, number), number)[0] == "yes":
            left = _without(left, number)
    papers = []
    drawings = []
    for number in range(len(sayings)):
        _, told = _follows_from(sayings, _without(left, number), number)
        if number in left:
            drawings.append((number, told))
        else:
            papers.append((number, told))
    return (left, papers, drawings)


def _follows_from(sayings, numbers, number):
    return follows(_picked(sayings, numbers), sayings[number])


def _picked(sayings, numbers):
    return [sayings[number] for number in numbers]


def _without(numbers, number):
    return [other for other in numbers if other != number]
