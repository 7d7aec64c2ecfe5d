"""The refusals of the program."""


class LandError(ValueError):
    """Any refusal."""


class NoLand(LandError):
    """A name that is no land of what was asked."""

    def __init__(self, name):
        super().__init__(f"no land has the name {name}")
        self.name = name


class BadSaying(LandError):
    """A saying that cannot stand in its list: its number, and a word why."""

    def __init__(self, at, why):
        super().__init__(f"saying {at} is bad: {why}")
        self.at = at
        self.why = why


class NoDrawing(LandError):
    """Sayings that no drawing keeps, with a paper that shows it."""

    def __init__(self, paper):
        super().__init__("no drawing keeps these sayings")
        self.paper = _copied(paper)


class NoSaying(LandError):
    """A number by which no saying stands."""

    def __init__(self, number):
        super().__init__(f"no saying stands by the number {number}")
        self.number = number


class BadText(LandError):
    """A text with a row that cannot be read."""

    def __init__(self, row):
        super().__init__(f"row {row} cannot be read")
        self.row = row


def refuse_unknown(known, names):
    """Refuses, with NoLand, the first of the names that is none of the known ones."""
    for name in names:
        if name not in known:
            raise NoLand(name)


def _copied(part):
    """A paper, or a part of one, with no list shared."""
    if not isinstance(part, (list, tuple)):
        return part
    parts = []
    for inner in part:
        parts.append(_copied(inner))
    if isinstance(part, tuple):
        return tuple(parts)
    return parts
