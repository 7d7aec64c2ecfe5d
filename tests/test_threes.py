import inspect
import unittest
from itertools import combinations, product

import by_words
from by_words import WAYS, in_order
from regionsay import drawings, threes
from regionsay.threes import led, led_choices, turned


def all_choices():
    return [choice for size in range(9) for choice in combinations(WAYS, size)]


class TestTurned(unittest.TestCase):
    def test_each_way(self):
        told = [turned(way) for way in WAYS]
        self.assertEqual(told, ["apart", "meets", "over", "same", "hasrim", "hascore", "inrim", "incore"])

    def test_twice_is_the_way_itself(self):
        for way in WAYS:
            self.assertEqual(turned(turned(way)), way)


class TestLed(unittest.TestCase):
    def test_some_known_ones(self):
        self.assertEqual(led("incore", "hascore"), WAYS)
        self.assertEqual(led("meets", "meets"), ("apart", "meets", "over", "same", "inrim", "hasrim"))
        self.assertEqual(led("inrim", "inrim"), ("inrim", "incore"))
        self.assertEqual(led("inrim", "incore"), ("incore",))
        self.assertEqual(led("meets", "incore"), ("over", "inrim", "incore"))
        self.assertEqual(led("meets", "hascore"), ("apart",))
        self.assertEqual(led("hascore", "incore"), ("over", "same", "inrim", "incore", "hasrim", "hascore"))

    def test_each_two_ways_lead_to_all_that_is_drawn_and_no_more(self):
        for one, other in product(WAYS, repeat=2):
            found = []
            for way in WAYS:
                said = [("a", one, "b"), ("b", other, "c"), ("a", way, "c")]
                shown = by_words.sight(by_words.fullest("abc", said))
                wanted = {("a", "b"): one, ("b", "c"): other, ("a", "c"): way}
                if shown == wanted:
                    found.append(way)
            self.assertEqual(led(one, other), tuple(found), (one, other))

    def test_each_way_that_is_led_to_is_seen_in_a_drawing(self):
        for one, other in product(WAYS, repeat=2):
            for way in led(one, other):
                drawing = by_words.fullest("abc", [("a", one, "b"), ("b", other, "c"), ("a", way, "c")])
                self.assertLessEqual(len(drawing), 40)
                self.assertEqual(drawings.seen(drawing, "a", "b"), one)
                self.assertEqual(drawings.seen(drawing, "b", "c"), other)
                self.assertEqual(drawings.seen(drawing, "a", "c"), way)

    def test_what_small_drawings_show_is_led_to(self):
        rows = by_words.strips("abc", 2)
        for first, second in product(rows, repeat=2):
            ways = by_words.sight([first, second])
            if len(ways) == 3:
                self.assertIn(ways[("a", "c")], led(ways[("a", "b")], ways[("b", "c")]))

    def test_same_leads_on_to_the_other_way(self):
        for way in WAYS:
            self.assertEqual(led("same", way), (way,))
            self.assertEqual(led(way, "same"), (way,))

    def test_same_is_led_to_just_by_ways_turned_to_each_other(self):
        for one, other in product(WAYS, repeat=2):
            self.assertEqual("same" in led(one, other), other == turned(one))

    def test_round_the_other_way(self):
        for one, other in product(WAYS, repeat=2):
            back = led(turned(other), turned(one))
            self.assertEqual(led(one, other), in_order([turned(way) for way in back]))

    def test_it_is_a_choice(self):
        for one, other in product(WAYS, repeat=2):
            told = led(one, other)
            self.assertIs(told.__class__, tuple)
            self.assertEqual(told, in_order(told))
            self.assertTrue(told)


class TestLedChoices(unittest.TestCase):
    def test_single_ways_are_as_led(self):
        for one, other in product(WAYS, repeat=2):
            self.assertEqual(led_choices((one,), (other,)), led(one, other))

    def test_none_leads_to_none(self):
        for choice in all_choices():
            self.assertEqual(led_choices((), choice), ())
            self.assertEqual(led_choices(choice, ()), ())

    def test_all_lead_to_all(self):
        self.assertEqual(led_choices(WAYS, WAYS), WAYS)
        for way in WAYS:
            self.assertEqual(led_choices((way,), WAYS), WAYS)
            self.assertEqual(led_choices(WAYS, (way,)), WAYS)

    def test_of_several_ways_it_is_all_that_they_lead_to(self):
        self.assertEqual(led_choices(("inrim", "incore"), ("incore",)), ("incore",))
        self.assertEqual(led_choices(("incore", "hascore"), ("same",)), ("incore", "hascore"))
        self.assertEqual(led_choices(("hasrim", "hascore"), ("hasrim",)), ("hasrim", "hascore"))
        pairs = list(combinations(WAYS, 2))
        for ones, others in product(pairs, pairs):
            ways = [way for one in ones for other in others for way in led(one, other)]
            self.assertEqual(led_choices(ones, others), in_order(ways))

    def test_every_choice_with_single_ways(self):
        for choice in all_choices():
            for way in WAYS:
                behind = [told for one in choice for told in led(one, way)]
                ahead = [told for other in choice for told in led(way, other)]
                self.assertEqual(led_choices(choice, (way,)), in_order(behind))
                self.assertEqual(led_choices((way,), choice), in_order(ahead))

    def test_asked_again_it_is_the_same(self):
        ones, others = ("meets", "inrim"), ("over", "hasrim")
        first = led_choices(ones, others)
        self.assertEqual(led_choices(ones, others), first)
        self.assertEqual((ones, others), (("meets", "inrim"), ("over", "hasrim")))


class TestInterface(unittest.TestCase):
    def test_names_and_arguments(self):
        for name, arguments in {"turned": ["way"], "led": ["one", "other"],
                                "led_choices": ["ones", "others"]}.items():
            told = getattr(threes, name)
            self.assertEqual(told.__module__, "regionsay.threes")
            self.assertEqual(list(inspect.signature(told).parameters), arguments)


if __name__ == "__main__":
    unittest.main()
