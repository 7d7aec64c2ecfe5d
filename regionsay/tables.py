"""Tables: dicts from each two lands, the lower one first, to the choice of the ways of the one to the other."""

from regionsay.threes import WAYS, led_choices, turned_choice


def full_table(names):
    """The table in which nothing is said of these lands."""
    return {(one, other): WAYS for one in names for other in names if one < other}


def table_copy(table):
    """A table of its own with the same choices."""
    return {two: table[two] for two in table}


def ways_in(table, one, other):
    """The choice of the one to the other."""
    if one == other:
        return ("same",)
    if one < other:
        return table[(one, other)]
    return turned_choice(table[(other, one)])


def keep_ways(table, one, other, choice):
    """Lets only ways of the choice stay for the one to the other, and tells whether a way went."""
    before = ways_in(table, one, other)
    after = tuple([way for way in before if way in choice])
    if after == before:
        return False
    if one < other:
        table[(one, other)] = after
    else:
        table[(other, one)] = turned_choice(after)
    return True


def narrow_table(table, one, middle, other):
    """Lets only ways stay to which those by the middle lead, and tells whether a way went."""
    choice = led_choices(ways_in(table, one, middle), ways_in(table, middle, other))
    return keep_ways(table, one, other, choice)
