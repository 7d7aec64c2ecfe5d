"""The eight ways in which two lands are seen to lie, and what two of them lead to for a third land."""

WAYS = ("apart", "meets", "over", "same", "inrim", "incore", "hasrim", "hascore")

# What each way is when it is told from the other land.
TURNED = {
    "apart": "apart",
    "meets": "meets",
    "over": "over",
    "same": "same",
    "inrim": "hasrim",
    "incore": "hascore",
    "hasrim": "inrim",
    "hascore": "incore",
}

# Each entry is exact for drawings of any size: whether three ways go together depends only on the kinds
# of plots and of neighbouring pairs that the ways let stand, and of these there are few for three lands.
LED = {
    ("apart", "apart"): ("apart", "meets", "over", "same", "inrim", "incore", "hasrim", "hascore"),
    ("apart", "meets"): ("apart", "meets", "over", "inrim", "incore"),
    ("apart", "over"): ("apart", "meets", "over", "inrim", "incore"),
    ("apart", "same"): ("apart",),
    ("apart", "inrim"): ("apart", "meets", "over", "inrim", "incore"),
    ("apart", "incore"): ("apart", "meets", "over", "inrim", "incore"),
    ("apart", "hasrim"): ("apart",),
    ("apart", "hascore"): ("apart",),
    ("meets", "apart"): ("apart", "meets", "over", "hasrim", "hascore"),
    ("meets", "meets"): ("apart", "meets", "over", "same", "inrim", "hasrim"),
    ("meets", "over"): ("apart", "meets", "over", "inrim", "incore"),
    ("meets", "same"): ("meets",),
    ("meets", "inrim"): ("meets", "over", "inrim", "incore"),
    ("meets", "incore"): ("over", "inrim", "incore"),
    ("meets", "hasrim"): ("apart", "meets"),
    ("meets", "hascore"): ("apart",),
    ("over", "apart"): ("apart", "meets", "over", "hasrim", "hascore"),
    ("over", "meets"): ("apart", "meets", "over", "hasrim", "hascore"),
    ("over", "over"): ("apart", "meets", "over", "same", "inrim", "incore", "hasrim", "hascore"),
    ("over", "same"): ("over",),
    ("over", "inrim"): ("over", "inrim", "incore"),
    ("over", "incore"): ("over", "inrim", "incore"),
    ("over", "hasrim"): ("apart", "meets", "over", "hasrim", "hascore"),
    ("over", "hascore"): ("apart", "meets", "over", "hasrim", "hascore"),
    ("same", "apart"): ("apart",),
    ("same", "meets"): ("meets",),
    ("same", "over"): ("over",),
    ("same", "same"): ("same",),
    ("same", "inrim"): ("inrim",),
    ("same", "incore"): ("incore",),
    ("same", "hasrim"): ("hasrim",),
    ("same", "hascore"): ("hascore",),
    ("inrim", "apart"): ("apart",),
    ("inrim", "meets"): ("apart", "meets"),
    ("inrim", "over"): ("apart", "meets", "over", "inrim", "incore"),
    ("inrim", "same"): ("inrim",),
    ("inrim", "inrim"): ("inrim", "incore"),
    ("inrim", "incore"): ("incore",),
    ("inrim", "hasrim"): ("apart", "meets", "over", "same", "inrim", "hasrim"),
    ("inrim", "hascore"): ("apart", "meets", "over", "hasrim", "hascore"),
    ("incore", "apart"): ("apart",),
    ("incore", "meets"): ("apart",),
    ("incore", "over"): ("apart", "meets", "over", "inrim", "incore"),
    ("incore", "same"): ("incore",),
    ("incore", "inrim"): ("incore",),
    ("incore", "incore"): ("incore",),
    ("incore", "hasrim"): ("apart", "meets", "over", "inrim", "incore"),
    ("incore", "hascore"): ("apart", "meets", "over", "same", "inrim", "incore", "hasrim", "hascore"),
    ("hasrim", "apart"): ("apart", "meets", "over", "hasrim", "hascore"),
    ("hasrim", "meets"): ("meets", "over", "hasrim", "hascore"),
    ("hasrim", "over"): ("over", "hasrim", "hascore"),
    ("hasrim", "same"): ("hasrim",),
    ("hasrim", "inrim"): ("over", "same", "inrim", "hasrim"),
    ("hasrim", "incore"): ("over", "inrim", "incore"),
    ("hasrim", "hasrim"): ("hasrim", "hascore"),
    ("hasrim", "hascore"): ("hascore",),
    ("hascore", "apart"): ("apart", "meets", "over", "hasrim", "hascore"),
    ("hascore", "meets"): ("over", "hasrim", "hascore"),
    ("hascore", "over"): ("over", "hasrim", "hascore"),
    ("hascore", "same"): ("hascore",),
    ("hascore", "inrim"): ("over", "hasrim", "hascore"),
    ("hascore", "incore"): ("over", "same", "inrim", "incore", "hasrim", "hascore"),
    ("hascore", "hasrim"): ("hascore",),
    ("hascore", "hascore"): ("hascore",),
}


def turned(way):
    """The way in which the other lies to the one, where the one lies to the other in this way."""
    return TURNED[way]


def turned_choice(choice):
    """The choice of the other to the one, where that of the one to the other is this."""
    back = [turned(way) for way in choice]
    return tuple([way for way in WAYS if way in back])


def led(one, other):
    """The choice of ways of a to c, where a lies to b in the one way and b to c in the other."""
    return LED[(one, other)]


def led_choices(ones, others):
    """The choice of all ways to which some way of the ones and some way of the others lead."""
    found = [way for one in ones for other in others for way in LED[(one, other)]]
    return tuple([way for way in WAYS if way in found])
