import inspect
import unittest
from copy import deepcopy
from itertools import product

import by_words
from by_words import WAYS
from regionsay import drawings
from regionsay.drawings import holds, lands, seen, sight, trimmed
from regionsay.errors import LandError, NoLand
from regionsay.threes import turned

A, B, AB, NONE = ("a",), ("b",), ("a", "b"), ()

# For each way of "a" to "b" drawings in which it is seen.
SHOWN = {
    "apart": [[[A], [B]], [[A, NONE, B]], [[NONE, A], [B, NONE]], [[A, A], [B, B]]],
    "meets": [[[A, B]], [[B, A]], [[NONE, NONE, A, B]], [[A], [B], [B, A]], [[A, NONE], [NONE, NONE, B, A]]],
    "over": [[[A, AB, B]], [[AB], [A], [B]], [[A, B], [AB]], [[NONE, AB, NONE, A, B]]],
    "same": [[[AB]], [[AB, NONE]], [[AB, AB], [NONE], [AB]], [[NONE, AB, NONE, AB]]],
    "inrim": [[[AB, B], [AB, NONE]], [[AB, NONE], [B]], [[NONE, AB, B]], [[B, AB, NONE]], [[B], [B, B], [NONE, AB]]],
    "incore": [[[AB, B]], [[AB], [B]], [[B, AB, B, NONE]], [[NONE, B, AB, AB, B]], [[AB, B], [B, NONE]]],
    "hasrim": [[[AB, A], [AB, NONE]], [[A], [NONE, AB]], [[A, AB, NONE]]],
    "hascore": [[[AB, A]], [[AB], [A]], [[A, AB, A, NONE]]],
}


def forty_strips():
    names = ["b", "cc", "abcdefgh", "d", "zz", "y"]
    kinds = by_words.kinds(sorted(names))
    return [[kinds[(row * row + 7 * at * row) % 64] for at in range(1 + row % 8)] for row in range(40)]


class TestLands(unittest.TestCase):
    def test_rising_and_each_once(self):
        self.assertEqual(lands([[("b", "d"), ()], [("a", "b")], [("c",)]]), ["a", "b", "c", "d"])
        self.assertEqual(lands([[("b",)], [("aa",), ("a",)], [("ab", "b")]]), ["a", "aa", "ab", "b"])

    def test_none(self):
        self.assertEqual(lands([]), [])
        self.assertEqual(lands([[()]]), [])
        self.assertEqual(lands([[()] * 8, [()]]), [])

    def test_one_plot(self):
        self.assertEqual(lands([[("abcdefgh",)]]), ["abcdefgh"])

    def test_forty_strips_and_six_lands(self):
        self.assertEqual(lands(forty_strips()), ["abcdefgh", "b", "cc", "d", "y", "zz"])

    def test_the_list_may_be_changed(self):
        drawing = [[A, B]]
        told = lands(drawing)
        told.append("c")
        told[0] = "x"
        self.assertEqual(lands(drawing), ["a", "b"])
        self.assertEqual(drawing, [[A, B]])


class TestSeen(unittest.TestCase):
    def test_each_way(self):
        for way, shown in SHOWN.items():
            for drawing in shown:
                self.assertEqual(seen(drawing, "a", "b"), way, drawing)
                self.assertEqual(seen(drawing, "b", "a"), turned(way), drawing)

    def test_a_land_to_itself(self):
        for way, shown in SHOWN.items():
            for drawing in shown:
                self.assertEqual(seen(drawing, "a", "a"), "same")
                self.assertEqual(seen(drawing, "b", "b"), "same")

    def test_the_first_case_that_is_so_is_told(self):
        # Here the two have all plots in common, and a neighbour that is neither's.
        self.assertEqual(seen([[AB, NONE]], "a", "b"), "same")
        # Here they have a plot in common and neighbours, too.
        self.assertEqual(seen([[AB, B]], "a", "b"), "incore")
        self.assertEqual(seen([[AB, B, AB, NONE]], "a", "b"), "inrim")
        self.assertEqual(seen([[A, B], [AB]], "a", "b"), "over")
        self.assertEqual(seen([[A, B], [A], [B]], "a", "b"), "meets")

    def test_neighbours_at_every_place_of_a_strip(self):
        for size in range(2, 9):
            for at in range(size - 1):
                for left, right in ((A, B), (B, A)):
                    strip = [NONE] * size
                    strip[at], strip[at + 1] = left, right
                    self.assertEqual(seen([strip], "a", "b"), "meets", strip)

    def test_a_rim_at_every_place_of_a_strip(self):
        for size in range(1, 9):
            for at in range(size):
                for hole in range(size):
                    strip = [B] * size
                    strip[hole] = NONE
                    strip[at] = AB
                    way = "inrim" if abs(at - hole) == 1 else "incore"
                    self.assertEqual(seen([strip, [B]], "a", "b"), way, strip)
                    self.assertEqual(seen([strip, [B]], "b", "a"), turned(way), strip)

    def test_the_ends_of_a_strip_are_no_neighbours_of_each_other(self):
        for size in range(3, 9):
            self.assertEqual(seen([[A] + [NONE] * (size - 2) + [B]], "a", "b"), "apart")
        self.assertEqual(seen([[AB, B, NONE]], "a", "b"), "incore")
        self.assertEqual(seen([[NONE, B, AB]], "a", "b"), "incore")

    def test_no_neighbours_across_two_strips(self):
        for longer in range(1, 5):
            self.assertEqual(seen([[A] * longer, [B] * longer], "a", "b"), "apart")
            self.assertEqual(seen([[NONE] * longer + [A], [B] + [NONE] * longer], "a", "b"), "apart")
            self.assertEqual(seen([[B] * longer + [AB], [NONE] * longer], "a", "b"), "incore")
            self.assertEqual(seen([[NONE] * longer, [AB] + [B] * longer, [NONE]], "a", "b"), "incore")

    def test_every_small_drawing_of_two_lands(self):
        small = [[strip] for strip in by_words.strips("ab", 4)]
        small += [[first, second] for first, second in product(by_words.strips("ab", 2), repeat=2)]
        for drawing in small:
            for one, other in product(lands(drawing), repeat=2):
                self.assertEqual(seen(drawing, one, other), by_words.seen(drawing, one, other), drawing)

    def test_names_that_are_parts_of_each_other(self):
        drawing = [[("ab",), ("abc", "b")], [("a",)]]
        self.assertEqual(seen(drawing, "a", "ab"), "apart")
        self.assertEqual(seen(drawing, "ab", "b"), "meets")
        self.assertEqual(seen(drawing, "abc", "b"), "same")

    def test_no_land(self):
        for drawing in ([], [[()]], [[A, B]], [[("ax",), ("bxx",)], [("xyz", "yx")]], forty_strips()):
            known = lands(drawing)
            for one, other in product(["x", "xy", "longname", *known], repeat=2):
                missing = [name for name in (one, other) if name not in known]
                if missing:
                    with self.assertRaises(NoLand) as caught:
                        seen(drawing, one, other)
                    self.assertEqual(caught.exception.name, missing[0])
                    self.assertIsInstance(caught.exception, LandError)

    def test_no_land_at_the_one_side_at_the_other_and_at_both(self):
        for one, other, name in (("x", "a", "x"), ("a", "x", "x"), ("y", "x", "y"), ("x", "y", "x"), ("x", "x", "x")):
            with self.assertRaises(NoLand) as caught:
                seen([[A, B]], one, other)
            self.assertEqual(caught.exception.name, name)

    def test_asked_again_after_the_drawing_was_changed(self):
        drawing = [[A, B]]
        self.assertEqual(seen(drawing, "a", "b"), "meets")
        drawing.append([AB])
        self.assertEqual(seen(drawing, "a", "b"), "over")
        drawing.pop()
        self.assertEqual(seen(drawing, "a", "b"), "meets")


class TestSight(unittest.TestCase):
    def test_each_two_lands_once(self):
        drawing = [[("a", "b"), ("b", "c")], [("d",)], [("d",), ()]]
        self.assertEqual(sight(drawing), {
            ("a", "b"): "incore", ("a", "c"): "meets", ("a", "d"): "apart",
            ("b", "c"): "hascore", ("b", "d"): "apart", ("c", "d"): "apart"})

    def test_the_one_name_is_before_the_other_as_texts_are(self):
        told = sight([[("b",), ("aa",)], [("ab", "b")]])
        self.assertEqual(told, {("aa", "ab"): "apart", ("aa", "b"): "meets", ("ab", "b"): "incore"})

    def test_no_land_and_one_land_have_no_pair(self):
        for drawing in ([], [[()]], [[A]], [[A, NONE], [A]]):
            self.assertEqual(sight(drawing), {})

    def test_every_way(self):
        for way, shown in SHOWN.items():
            for drawing in shown:
                self.assertEqual(sight(drawing), {("a", "b"): way})

    def test_every_small_drawing_of_three_lands(self):
        small = [[strip] for strip in by_words.strips("abc", 3)]
        small += [[first, second] for first, second in product(by_words.strips("abc", 2), [[()], [("a", "c")], [A, B]])]
        for drawing in small:
            self.assertEqual(sight(drawing), by_words.sight(drawing), drawing)

    def test_forty_strips_and_six_lands(self):
        drawing = forty_strips()
        for rows in (drawing, drawing[:1], drawing[:5], drawing[30:], drawing[::7]):
            self.assertEqual(sight(rows), by_words.sight(rows))
        self.assertEqual(len(sight(drawing)), 15)

    def test_it_is_as_seen(self):
        for drawing in (forty_strips(), forty_strips()[:4]):
            for (one, other), way in sight(drawing).items():
                self.assertEqual(seen(drawing, one, other), way)
                self.assertEqual(seen(drawing, other, one), turned(way))

    def test_asked_again_after_what_was_told_has_been_changed(self):
        drawing = [[("a",), ("b",), ("c",)]]
        kept = deepcopy(drawing)
        told = sight(drawing)
        right = dict(told)
        told[("a", "b")] = "over"
        del told[("b", "c")]
        self.assertEqual(sight(drawing), right)
        self.assertEqual(drawing, kept)


class TestHolds(unittest.TestCase):
    def test_each_single_way(self):
        for way, shown in SHOWN.items():
            for drawing in shown:
                for said in WAYS:
                    self.assertIs(holds(drawing, ("a", (said,), "b")), said == way)
                    self.assertIs(holds(drawing, ("b", (said,), "a")), said == turned(way))

    def test_a_choice_of_several(self):
        self.assertIs(holds([[A, B]], ("a", ("apart", "meets"), "b")), True)
        self.assertIs(holds([[A, B]], ("a", ("apart", "over"), "b")), False)
        for way, shown in SHOWN.items():
            others = tuple(told for told in WAYS if told != way)
            for drawing in shown:
                self.assertIs(holds(drawing, ("a", others, "b")), False)

    def test_none_and_all(self):
        for shown in SHOWN.values():
            for drawing in shown:
                self.assertIs(holds(drawing, ("a", (), "b")), False)
                self.assertIs(holds(drawing, ("a", WAYS, "b")), True)
                self.assertIs(holds(drawing, ("b", WAYS, "a")), True)

    def test_no_land(self):
        for choice in ((), ("same",), WAYS):
            for one, other, name in (("x", "a", "x"), ("a", "x", "x"), ("y", "x", "y"), ("x", "y", "x")):
                with self.assertRaises(NoLand) as caught:
                    holds([[A, B]], (one, choice, other))
                self.assertEqual(caught.exception.name, name)
            with self.assertRaises(NoLand) as caught:
                holds([], ("b", choice, "a"))
            self.assertEqual(caught.exception.name, "b")

    def test_nothing_is_changed_and_asked_again_it_is_the_same(self):
        drawing, saying = [[A, B], [NONE]], ("a", ("meets",), "b")
        kept = deepcopy((drawing, saying))
        self.assertIs(holds(drawing, saying), True)
        self.assertIs(holds(drawing, saying), True)
        self.assertEqual((drawing, saying), kept)


class TestTrimmed(unittest.TestCase):
    def test_idle_strips_are_left_out(self):
        self.assertEqual(trimmed([[A, B], [A], [NONE]]), [[A, B]])
        self.assertEqual(trimmed([[A], [A, B], [B, B]]), [[A, B]])
        self.assertEqual(trimmed([[A], [B], [AB]]), [[A], [B], [AB]])
        self.assertEqual(trimmed([[A, B], [AB], [NONE, B]]), [[A, B], [AB]])

    def test_no_strips(self):
        self.assertEqual(trimmed([]), [])

    def test_strips_without_a_land(self):
        self.assertEqual(trimmed([[NONE]]), [])
        self.assertEqual(trimmed([[NONE] * 8, [NONE]]), [])

    def test_a_plot_of_none_that_makes_a_rim_stays(self):
        self.assertEqual(trimmed([[AB, NONE], [AB, B]]), [[AB, NONE], [AB, B]])
        self.assertEqual(trimmed([[B, AB, NONE], [AB, B]]), [[B, AB, NONE]])

    def test_the_one_land_stays(self):
        self.assertEqual(trimmed([[A]]), [[A]])
        self.assertEqual(trimmed([[A], [A, A], [A, NONE]]), [[A, NONE]])

    def test_a_land_with_no_sight_of_its_own_stays(self):
        self.assertEqual(trimmed([[A], [NONE]]), [[A]])
        self.assertEqual(trimmed([[NONE], [A], [B]]), [[A], [B]])

    def test_strips_that_are_told_twice(self):
        self.assertEqual(trimmed([[A, B], [A, B]]), [[A, B]])
        self.assertEqual(trimmed([[A], [B], [A], [B]]), [[A], [B]])
        shared = [A, AB]
        self.assertEqual(trimmed([shared, [B], shared, [B]]), [[A, AB], [B]])

    def test_the_first_of_two_that_serve_alike_goes(self):
        self.assertEqual(trimmed([[A, B], [B, A]]), [[B, A]])
        self.assertEqual(trimmed([[B, A], [NONE, A, B], [A, B]]), [[A, B]])

    def test_those_left_out_ahead_are_not_there_any_more(self):
        # Either the first strip or the second and the third together would do.
        self.assertEqual(trimmed([[A, NONE, B], [A], [B]]), [[A], [B]])
        self.assertEqual(trimmed([[A], [A, NONE, B], [B]]), [[A, NONE, B]])
        self.assertEqual(trimmed([[A], [B], [A, NONE, B]]), [[A, NONE, B]])

    def test_the_others_stay_in_their_order(self):
        drawing = [[("c",)], [NONE], [("b",)], [("c",), ("c",)], [("a",)]]
        self.assertEqual(trimmed(drawing), [[("b",)], [("c",), ("c",)], [("a",)]])

    def test_every_small_drawing_of_two_lands(self):
        rows = by_words.strips("ab", 2)
        for drawing in product(rows, repeat=3):
            drawing = list(drawing)
            self.assertEqual(trimmed(drawing), by_words.trimmed(drawing), drawing)

    def test_forty_strips_and_six_lands(self):
        drawing = forty_strips()
        self.assertEqual(len(drawing), 40)
        told = trimmed(drawing)
        self.assertEqual(told, by_words.trimmed(drawing))
        self.assertEqual(sight(told), sight(drawing))
        self.assertEqual(lands(told), lands(drawing))

    def test_every_way_stays_to_be_seen(self):
        for way, shown in SHOWN.items():
            for drawing in shown:
                self.assertEqual(trimmed(drawing), by_words.trimmed(drawing))
                self.assertEqual(sight(trimmed(drawing)), {("a", "b"): way})

    def test_asked_again_after_what_was_told_has_been_changed(self):
        drawing = [[A, NONE], [A, AB, B], [NONE]]
        kept = deepcopy(drawing)
        right = [[A, AB, B]]
        told = trimmed(drawing)
        self.assertEqual(told, right)
        told[0].append(("x",))
        told[0][0] = ("y",)
        told.append([B])
        self.assertEqual(drawing, kept)
        self.assertEqual(trimmed(drawing), right)

    def test_where_nothing_is_left_out_it_is_a_copy_too(self):
        strip = [A]
        drawing = [strip, [B]]
        told = trimmed(drawing)
        self.assertEqual(told, drawing)
        told[0].append(B)
        told.pop()
        self.assertEqual(strip, [A])
        self.assertEqual(drawing, [[A], [B]])


class TestNothingHandedInIsChanged(unittest.TestCase):
    def test_compared_with_a_copy_made_ahead(self):
        for drawing in ([], [[NONE]], [[A, B], [A, B]], forty_strips()):
            kept = deepcopy(drawing)
            lands(drawing)
            sight(drawing)
            trimmed(drawing)
            for one, other in product(lands(drawing), repeat=2):
                seen(drawing, one, other)
            with self.assertRaises(NoLand):
                seen(drawing, "x", "a")
            self.assertEqual(drawing, kept)


class TestInterface(unittest.TestCase):
    def test_names_and_arguments(self):
        for name, arguments in {"lands": ["drawing"], "seen": ["drawing", "one", "other"], "sight": ["drawing"],
                                "holds": ["drawing", "saying"], "trimmed": ["drawing"]}.items():
            told = getattr(drawings, name)
            self.assertEqual(told.__module__, "regionsay.drawings")
            self.assertEqual(list(inspect.signature(told).parameters), arguments)

    def test_kinds_of_values(self):
        drawing = [[A, AB], [B]]
        self.assertIs(lands(drawing).__class__, list)
        self.assertIs(seen(drawing, "a", "b").__class__, str)
        self.assertIs(sight(drawing).__class__, dict)
        self.assertIs(holds(drawing, ("a", (), "b")).__class__, bool)
        told = trimmed(drawing)
        self.assertIs(told.__class__, list)
        self.assertTrue(all(strip.__class__ is list for strip in told))
        self.assertTrue(all(plot.__class__ is tuple for strip in told for plot in strip))


if __name__ == "__main__":
    unittest.main()
