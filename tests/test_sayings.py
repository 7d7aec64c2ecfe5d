import inspect
import unittest
from copy import deepcopy
from itertools import combinations

import by_words
from by_words import WAYS
from regionsay import sayings as sayings_file
from regionsay.closing import Closing, closed
from regionsay.errors import BadSaying, LandError
from regionsay.papers import is_paper
from regionsay.quarrels import needed, quarrel
from regionsay.sayings import held
from regionsay.search import follows, may, settled
from regionsay.texts import sayings_text
from regionsay.threes import turned
from samples import BAD, GOOD, THIRTY, mixed


def refusal(asked):
    """The number and the word with which a call is refused."""
    try:
        asked()
    except BadSaying as bad:
        return bad.at, bad.why
    return None


def all_choices():
    return [choice for size in range(9) for choice in combinations(WAYS, size)]


class TestBadSaying(unittest.TestCase):
    def test_each_bad_list(self):
        for sayings, at, why in BAD:
            before = deepcopy(sayings)
            self.assertEqual(refusal(lambda: held(sayings)), (at, why), sayings)
            self.assertEqual(sayings, before)

    def test_all_that_take_sayings_refuse_ahead_of_all_else(self):
        for sayings, at, why in BAD:
            self.assertEqual(refusal(lambda: Closing(sayings)), (at, why), sayings)
            self.assertEqual(refusal(lambda: closed(sayings)), (at, why), sayings)
            for paper in (([], ("none", "a", "b")), ([("a", "x", "a")], ("cases", "y", "y", []))):
                self.assertEqual(refusal(lambda: is_paper(sayings, paper)), (at, why), sayings)
            for asked in (settled, quarrel, needed, sayings_text):
                self.assertEqual(refusal(lambda: asked(sayings)), (at, why), sayings)
            self.assertEqual(refusal(lambda: may(sayings, "x", "x")), (at, why), sayings)
            self.assertEqual(refusal(lambda: follows(sayings[:-1], sayings[-1])), (at, why), sayings)

    def test_it_is_a_refusal(self):
        with self.assertRaises(LandError):
            held([("a", WAYS, "a")])

    def test_good_lists_are_not_refused(self):
        for sayings in GOOD:
            self.assertIsNone(refusal(lambda: held(sayings)), sayings)

    def test_each_bad_saying_at_each_place(self):
        for bad, why in ((("A", (), "b"), "name"), (("b", (), "abcdefghi"), "name"), (("b", WAYS, "b"), "self"),
                         (("b", ("over", "meets"), "c"), "ways"), (("g", (), "b"), "many"), (("b", (), "g"), "many")):
            # All six lands stand ahead, so that a seventh is one at each place behind them.
            for at in range(3, 30):
                sayings = [("a", WAYS, "b"), ("c", WAYS, "d"), ("e", WAYS, "f")] + THIRTY[:26]
                sayings.insert(at, bad)
                self.assertEqual(refusal(lambda: held(sayings)), (at, why))

    def test_the_length_of_names(self):
        for size in range(12):
            wanted = None if 1 <= size <= 8 else (0, "name")
            self.assertEqual(refusal(lambda: held([("q" * size, WAYS, "b")])), wanted)
            self.assertEqual(refusal(lambda: held([("b", WAYS, "q" * size)])), wanted)

    def test_the_signs_of_names(self):
        for code in range(0x250):
            sign = chr(code)
            wanted = None if sign in "abcdefghijklmnopqrstuvwxyz" else (0, "name")
            for name in (sign, "xy" + sign, sign + "xy"):
                self.assertEqual(refusal(lambda: held([(name, WAYS, "bb")])), wanted, name)
                self.assertEqual(refusal(lambda: held([("bb", WAYS, name)])), wanted, name)

    def test_every_choice_is_one(self):
        for choice in all_choices():
            self.assertEqual(held([("a", choice, "b")]), {("a", "b"): choice})

    def test_a_choice_in_another_order_or_with_a_way_twice_is_none(self):
        for choice in all_choices():
            if len(choice) > 1:
                self.assertEqual(refusal(lambda: held([("a", choice[::-1], "b")])), (0, "ways"))
                self.assertEqual(refusal(lambda: held([("a", choice[1:] + choice[:1], "b")])), (0, "ways"))
            if choice:
                self.assertEqual(refusal(lambda: held([("a", choice + choice[-1:], "b")])), (0, "ways"))
                self.assertEqual(refusal(lambda: held([("a", choice[:1] + choice, "b")])), (0, "ways"))

    def test_texts_that_are_no_ways(self):
        for text in ("", "Apart", "meet", "in", "inrim ", "apart meets", "none"):
            for choice in ((text,), ("apart", text), (text, "apart")):
                self.assertEqual(refusal(lambda: held([("a", choice, "b")])), (0, "ways"))

    def test_six_lands_and_a_seventh(self):
        six = [("a", WAYS, "b"), ("c", WAYS, "d"), ("e", WAYS, "f")]
        self.assertEqual(len(held(six)), 15)
        self.assertEqual(len(held(six + six + [("f", WAYS, "a")])), 15)
        self.assertEqual(refusal(lambda: held(six + six + [("a", WAYS, "ab")])), (6, "many"))
        self.assertEqual(refusal(lambda: held(six + [("x", WAYS, "y")])), (3, "many"))
        star = [("a", WAYS, name) for name in ("b", "c", "d", "e", "f", "g", "h")]
        self.assertEqual(refusal(lambda: held(star)), (5, "many"))
        self.assertIsNone(refusal(lambda: held(star[:5])))

    def test_thirty_and_thirty_one(self):
        self.assertEqual(len(THIRTY), 30)
        self.assertIsNone(refusal(lambda: held(THIRTY)))
        self.assertEqual(refusal(lambda: held(THIRTY + THIRTY[:1])), (30, "many"))
        self.assertEqual(refusal(lambda: held(THIRTY * 3)), (30, "many"))


class TestHeld(unittest.TestCase):
    def test_no_sayings(self):
        self.assertEqual(held([]), {})

    def test_one_saying(self):
        self.assertEqual(held([("a", ("meets", "incore"), "b")]), {("a", "b"): ("meets", "incore")})

    def test_the_other_way_round(self):
        self.assertEqual(held([("b", ("meets", "incore"), "a")]), {("a", "b"): ("meets", "hascore")})
        self.assertEqual(held([("b", ("inrim", "incore", "hascore"), "a")]),
                         {("a", "b"): ("incore", "hasrim", "hascore")})
        for choice in all_choices():
            told = held([("b", choice, "a")])
            self.assertEqual(told, {("a", "b"): by_words.in_order([turned(way) for way in choice])})

    def test_none_and_all(self):
        self.assertEqual(held([("a", (), "b")]), {("a", "b"): ()})
        self.assertEqual(held([("b", (), "a")]), {("a", "b"): ()})
        self.assertEqual(held([("b", WAYS, "a")]), {("a", "b"): WAYS})
        self.assertEqual(held([("b", WAYS, "a"), ("a", (), "b"), ("a", WAYS, "b")]), {("a", "b"): ()})

    def test_several_of_the_same_two_lands(self):
        sayings = [("a", ("apart", "inrim", "incore", "hasrim"), "b"), ("b", ("over", "hasrim", "hascore"), "a")]
        self.assertEqual(held(sayings), {("a", "b"): ("inrim", "incore")})
        self.assertEqual(held(sayings + [("a", ("over", "incore"), "b")]), {("a", "b"): ("incore",)})
        self.assertEqual(held(sayings + [("a", ("apart",), "b")]), {("a", "b"): ()})
        self.assertEqual(held(sayings * 10), {("a", "b"): ("inrim", "incore")})

    def test_every_two_choices_of_the_same_two_lands(self):
        choices = all_choices()[::7]
        for first in choices:
            for second in choices:
                both = tuple(way for way in first if way in second)
                self.assertEqual(held([("a", first, "b"), ("a", second, "b")]), {("a", "b"): both})
                back = by_words.in_order([turned(way) for way in second])
                self.assertEqual(held([("a", first, "b"), ("b", back, "a")]), {("a", "b"): both})

    def test_where_nothing_is_said_it_is_all_eight(self):
        self.assertEqual(held([("c", ("over",), "a"), ("b", ("same",), "c")]),
                         {("a", "b"): WAYS, ("a", "c"): ("over",), ("b", "c"): ("same",)})

    def test_nothing_is_narrowed_by_threes(self):
        told = held([("a", ("incore",), "b"), ("b", ("incore",), "c"), ("a", ("apart",), "c")])
        self.assertEqual(told, {("a", "b"): ("incore",), ("b", "c"): ("incore",), ("a", "c"): ("apart",)})

    def test_the_one_name_is_before_the_other_as_texts_are(self):
        told = held([("b", WAYS, "ab"), ("aa", WAYS, "abcdefgh"), ("a", ("inrim",), "z"), ("z", WAYS, "aa")])
        names = ["a", "aa", "ab", "abcdefgh", "b", "z"]
        self.assertEqual(list(told), list(combinations(names, 2)))
        self.assertEqual(told["a", "z"], ("inrim",))

    def test_as_the_words_tell(self):
        for sayings in GOOD + [mixed(seed) for seed in range(300)]:
            self.assertEqual(held(sayings), by_words.told(by_words.held(sayings)), sayings)

    def test_nothing_is_changed(self):
        for sayings in GOOD:
            before = deepcopy(sayings)
            held(sayings)
            self.assertEqual(sayings, before)

    def test_asked_again_after_what_was_told_has_been_changed(self):
        for sayings in GOOD[1:]:
            first = held(sayings)
            right = dict(first)
            first[list(first)[0]] = ("apart",)
            first["x", "y"] = WAYS
            self.assertEqual(held(sayings), right)
            first.clear()
            self.assertEqual(held(sayings), right)

    def test_asked_again_after_the_sayings_were_changed(self):
        sayings = [("a", ("over", "same"), "b")]
        told = held(sayings)
        sayings.append(("a", ("same",), "c"))
        self.assertEqual(told, {("a", "b"): ("over", "same")})
        self.assertEqual(held(sayings), {("a", "b"): ("over", "same"), ("a", "c"): ("same",), ("b", "c"): WAYS})


class TestInterface(unittest.TestCase):
    def test_names_and_arguments(self):
        self.assertEqual(held.__module__, "regionsay.sayings")
        self.assertEqual(list(inspect.signature(sayings_file.held).parameters), ["sayings"])

    def test_kinds_of_values(self):
        told = held(THIRTY)
        self.assertIs(told.__class__, dict)
        self.assertTrue(all(two.__class__ is tuple and choice.__class__ is tuple for two, choice in told.items()))


if __name__ == "__main__":
    unittest.main()
