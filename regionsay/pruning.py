"""Papers without what shows nothing, so that they stay short."""


def pruned(paper):
    """A paper for whatever a right one is for, right too, without the steps and the cases that show nothing."""
    lean, _ = _pruned(paper)
    return lean


def _pruned(paper):
    """The pruned paper, and a dict with each two lands whose choice at its beginning matters to it."""
    steps, end = paper
    two = _two(end[1], end[2])
    matters = {two: True}
    if end[0] == "none":
        return _with_steps(steps, ([], end), matters)
    papers = []
    for within in end[3]:
        lean, matters_within = _pruned(within)
        if two not in matters_within:
            # It is right whichever way the two lie, so it needs no cases around it.
            return _with_steps(steps, lean, matters_within)
        papers.append(lean)
        matters.update(matters_within)
    return _with_steps(steps, ([], (*end[:3], papers)), matters)


def _with_steps(steps, paper, matters):
    """The paper with those of the steps ahead that matter to it, and what matters ahead of these."""
    kept = []
    ahead = {two: True for two in matters}
    for one, middle, other in reversed(steps):
        if _two(one, other) in ahead:
            kept.append((one, middle, other))
            ahead[_two(one, middle)] = True
            ahead[_two(middle, other)] = True
    kept.reverse()
    return ((kept + paper[0], paper[1]), ahead)


def _two(one, other):
    return (min(one, other), max(one, other))
