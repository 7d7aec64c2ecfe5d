"""Lists of sayings to try: good ones, bad ones, and such that a drawing keeps."""

from random import Random

from by_words import WAYS, in_order, sight, strips

# Six lands in all, the last of them in the last saying, and thirty sayings.
THIRTY = [("abcde"[row % 5], WAYS[row % 4:], "abcde"[(row + 1 + row // 5 % 4) % 5]) for row in range(29)]
THIRTY = THIRTY + [("e", ("meets", "over"), "f")]

# Narrowing alone takes no last way here, but with each way of "a" to "c" alone it takes one.
NEEDS_CASES = [
    ("a", ("over", "inrim"), "b"), ("a", ("incore", "hascore"), "c"), ("a", ("same", "inrim", "hasrim"), "d"),
    ("b", ("over", "hascore"), "c"), ("b", ("meets", "incore"), "d"), ("c", ("inrim", "hasrim"), "d"),
]

# Narrowing alone takes no last way here, either, and it takes cases within cases to show that none can be.
HARD = [
    ("a", ("apart", "meets", "over", "same", "inrim", "hasrim", "hascore"), "b"),
    ("a", ("meets", "over", "inrim", "hasrim"), "c"), ("a", ("apart", "same", "inrim", "incore"), "d"),
    ("a", ("apart", "meets", "hasrim"), "e"), ("a", ("meets", "same", "inrim", "incore", "hascore"), "f"),
    ("b", ("same", "inrim", "incore", "hasrim", "hascore"), "c"), ("b", ("over", "same", "incore", "hascore"), "d"),
    ("b", ("apart", "meets", "same", "inrim", "hascore"), "e"), ("b", ("apart", "meets", "same", "inrim"), "f"),
    ("c", ("apart", "meets", "same", "inrim", "incore"), "d"), ("c", ("over", "incore", "hasrim"), "e"),
    ("c", ("over", "same", "inrim", "incore", "hascore"), "f"),
    ("d", ("apart", "meets", "same", "incore", "hasrim", "hascore"), "e"),
    ("d", ("apart", "meets", "same", "inrim"), "f"),
    ("e", ("apart", "over", "same", "inrim", "hasrim", "hascore"), "f"),
]

GOOD = [
    [],
    [("a", WAYS, "b")],
    [("b", (), "a")],
    [("b", ("inrim", "incore", "hascore"), "a")],
    [("a", ("inrim", "incore"), "b"), ("b", ("hasrim", "hascore"), "a"), ("a", ("incore",), "b")],
    [("a", ("meets",), "b"), ("b", ("over",), "a")],
    [("a", ("incore",), "b"), ("b", ("inrim", "incore"), "c")],
    [("a", ("over",), "b"), ("c", WAYS, "d")],
    [("a", ("inrim",), "b"), ("b", ("inrim",), "c"), ("c", ("inrim",), "a")],
    [("ab", ("over", "hascore"), "a"), ("abcdefgh", ("same",), "ab"), ("z", ("apart", "incore"), "abcdefgh")],
    [("f", ("incore",), "e"), ("e", ("incore",), "d"), ("d", ("incore",), "c"), ("c", ("incore",), "b"),
     ("b", ("incore",), "a")],
    NEEDS_CASES,
    HARD,
    THIRTY,
]

# Bad lists, each with the number and the word of its refusal.
BAD = [
    ([("", WAYS, "b")], 0, "name"),
    ([("a", WAYS, "")], 0, "name"),
    ([("abcdefghi", WAYS, "b")], 0, "name"),
    ([("a", WAYS, "abcdefghi")], 0, "name"),
    ([("A", WAYS, "b")], 0, "name"),
    ([("a", WAYS, "bC")], 0, "name"),
    ([("a b", WAYS, "b")], 0, "name"),
    ([("a", WAYS, "b\n")], 0, "name"),
    ([("a1", WAYS, "b")], 0, "name"),
    ([("a", WAYS, "`")], 0, "name"),
    ([("{", WAYS, "a")], 0, "name"),
    ([("a", WAYS, "\u00e9")], 0, "name"),
    ([("\u00aa", WAYS, "b")], 0, "name"),
    ([("a", WAYS, "a")], 0, "self"),
    ([("a", (), "a")], 0, "self"),
    ([("a", ("meets", "apart"), "b")], 0, "ways"),
    ([("a", ("same", "same"), "b")], 0, "ways"),
    ([("a", ("inside",), "b")], 0, "ways"),
    ([("a", ("apart", "", "meets"), "b")], 0, "ways"),
    ([("a", (*WAYS, "apart"), "b")], 0, "ways"),
    ([("a", WAYS[::-1], "b")], 0, "ways"),
    ([("a", WAYS, "b"), ("c", WAYS, "d"), ("e", WAYS, "f"), ("f", WAYS, "g")], 3, "many"),
    ([("a", WAYS, "b"), ("c", WAYS, "d"), ("e", WAYS, "f"), ("g", WAYS, "f")], 3, "many"),
    ([("a", WAYS, "b"), ("c", WAYS, "d"), ("e", WAYS, "d"), ("f", WAYS, "g")], 3, "many"),
    ([*THIRTY[:29], ("f", WAYS, "g")], 29, "many"),
    # Several words are so of one saying.
    ([("A", ("x",), "A")], 0, "name"),
    ([("", ("meets", "apart"), "")], 0, "name"),
    ([("a", ("x",), "a")], 0, "self"),
    ([*THIRTY[-4:], *THIRTY[:25], ("G", ("x",), "g")], 29, "name"),
    ([*THIRTY[-4:], *THIRTY[:25], ("g", ("x",), "g")], 29, "self"),
    ([*THIRTY[-4:], *THIRTY[:25], ("g", ("x",), "a")], 29, "ways"),
    ([*THIRTY[-4:], *THIRTY[:25], ("g", (), "a")], 29, "many"),
    # Several sayings are bad.
    ([("a", WAYS, "b"), ("b", ("x",), "a"), ("A", WAYS, "b"), ("a", WAYS, "a")], 1, "ways"),
    ([("a", WAYS, "b"), ("b", WAYS, "b"), ("A", WAYS, "b")], 1, "self"),
    ([("a", WAYS, "b"), ("c", WAYS, "d"), ("e", WAYS, "f"), ("g", WAYS, "h"), ("A", WAYS, "b")], 3, "many"),
    # Names of a bad saying do not count for a later one, which is not looked at.
    ([("a", WAYS, "b"), ("c", ("x",), "d"), ("e", WAYS, "f"), ("g", WAYS, "h")], 1, "ways"),
    # More than thirty.
    ([*THIRTY, ("a", WAYS, "b")], 30, "many"),
    ([("A", ("x",), "A")] * 31, 30, "many"),
    ([("a", WAYS, "a"), *THIRTY, ("a", WAYS, "b"), ("A", (), "b")], 30, "many"),
    ([("a", WAYS, "b")] * 35, 30, "many"),
]


def mixed(seed):
    """A list of good sayings of up to six lands, often such that no drawing keeps."""
    random = Random(seed)
    names = random.sample(["a", "b", "c", "dd", "ab", "zzzzzzzz"], random.randrange(2, 7))
    return [_saying(random, names) for _ in range(random.randrange(1, 13))]


def _saying(random, names):
    one, other = random.sample(names, 2)
    return (one, in_order(random.sample(WAYS, random.choice([1, 2, 3, 4, 7]))), other)


def kept(seed):
    """A drawing, and sayings that hold in it."""
    random = Random(seed)
    rows = strips("abcd", 2)
    drawing = [[("a",), ("b",)], [("c",), ("d",)]] + [random.choice(rows) for _ in range(random.randrange(5))]
    sayings = []
    for (one, other), way in sight(drawing).items():
        if random.randrange(4):
            sayings.append((one, in_order({way, *random.sample(WAYS, random.randrange(3))}), other))
    return drawing, sayings
