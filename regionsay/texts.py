"""Sayings and drawings, written as texts and read from them."""

from regionsay.errors import BadText
from regionsay.sayings import can_be_alone, is_name, refuse_bad


def sayings_text(sayings):
    """The text of sayings, a line each."""
    refuse_bad(sayings)
    return "\n".join([_saying_line(saying) for saying in sayings])


def sayings_of(text):
    """The sayings of a text."""
    sayings = []
    for row, line in enumerate(_lines(text)):
        saying = _saying_in(line)
        if not can_be_alone(saying) or _saying_line(saying) != line:
            raise BadText(row)
        sayings.append(saying)
    return sayings


def drawing_text(drawing):
    """The text of a drawing, a line for each strip."""
    return "\n".join([_strip_line(strip) for strip in drawing])


def drawing_of(text):
    """The drawing of a text."""
    drawing = []
    for row, line in enumerate(_lines(text)):
        strip = [_plot_in(word) for word in line.split(" ")]
        if not all(_is_plot(plot) for plot in strip):
            raise BadText(row)
        drawing.append(strip)
    return drawing


def _lines(text):
    if text == "":
        return []
    return text.split("\n")


def _saying_line(saying):
    one, choice, other = saying
    ways = "never"
    if choice:
        ways = " or ".join(choice)
    return f"{one} {ways} {other}"


def _saying_in(line):
    """What a line says if it is a saying; else something that is none, or is not written so."""
    words = line.split(" ")
    ways = words[1:-1]
    if ways == ["never"]:
        return (words[0], (), words[-1])
    return (words[0], tuple(ways[::2]), words[-1])


def _strip_line(strip):
    return " ".join(["+".join(plot) or "." for plot in strip])


def _plot_in(word):
    """The plot that a word tells if it is one; else something that is none."""
    if word == ".":
        return ()
    return tuple(word.split("+"))


def _is_plot(names):
    return list(names) == sorted(set(names)) and all(is_name(name) for name in names)
