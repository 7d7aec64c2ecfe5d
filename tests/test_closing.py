import inspect
import unittest
from copy import deepcopy
from itertools import permutations, product
from random import Random

import by_words
from by_words import WAYS
from looks import names_of
from regionsay.closing import Closing, closed
from regionsay.drawings import holds, sight
from regionsay.errors import LandError, NoLand
from regionsay.sayings import held
from regionsay.threes import led, led_choices, turned
from samples import GOOD, NEEDS_CASES, kept, mixed

LISTS = GOOD + [mixed(seed) for seed in range(60)]
CHAIN = [("a", ("inrim",), "b"), ("b", ("incore",), "c"), ("c", ("over", "incore"), "d")]


def closed_by_words(sayings, threes):
    """The table of the document's words, narrowed by these threes in this order till none takes a way."""
    table = by_words.held(sayings)
    while any([by_words.narrow(led, table, *three) for three in threes]):
        pass
    return by_words.told(table)


def missing(asked):
    """The name with which a call is refused by NoLand."""
    try:
        asked()
    except NoLand as refused:
        return refused.name
    return None


class TestTable(unittest.TestCase):
    def test_at_first_it_is_that_of_held(self):
        for sayings in LISTS:
            self.assertEqual(Closing(sayings).table(), held(sayings))

    def test_what_is_told_may_be_changed(self):
        closing = Closing(CHAIN)
        right = held(CHAIN)
        told = closing.table()
        told["a", "b"] = ("same",)
        del told["b", "c"]
        told["x", "y"] = WAYS
        self.assertEqual(closing.table(), right)
        self.assertEqual(closing.ways("a", "b"), ("inrim",))
        closing.close()
        right = closing.table()
        closing.table().clear()
        self.assertEqual(closing.table(), right)

    def test_sayings_that_are_changed_later_do_not_count(self):
        sayings = deepcopy(CHAIN)
        closing = Closing(sayings)
        sayings.pop()
        sayings[0] = ("a", (), "x")
        self.assertEqual(closing.table(), held(CHAIN))
        closing.close()
        self.assertEqual(closing.table(), closed(CHAIN))
        self.assertEqual(missing(lambda: closing.ways("a", "x")), "x")


class TestWays(unittest.TestCase):
    def test_as_the_table_tells(self):
        for sayings in LISTS:
            closing = Closing(sayings)
            for _ in range(2):
                for (one, other), choice in closing.table().items():
                    self.assertEqual(closing.ways(one, other), choice)
                    self.assertEqual(closing.ways(other, one), by_words.in_order([turned(way) for way in choice]))
                closing.close()

    def test_turned_they_are_in_their_order(self):
        closing = Closing([("a", ("apart", "inrim", "hasrim", "hascore"), "b")])
        self.assertEqual(closing.ways("b", "a"), ("apart", "inrim", "incore", "hasrim"))

    def test_of_a_land_to_itself(self):
        for sayings in LISTS:
            closing = Closing(sayings)
            for name in names_of(sayings):
                self.assertEqual(closing.ways(name, name), ("same",))
            closing.close()
            for name in names_of(sayings):
                self.assertEqual(closing.ways(name, name), ("same",))

    def test_no_land(self):
        closing = Closing(CHAIN)
        for one, other, name in (("x", "a", "x"), ("a", "x", "x"), ("x", "y", "x"), ("y", "x", "y"), ("x", "x", "x"),
                                 ("", "a", ""), ("a", "ab", "ab"), ("A", "a", "A")):
            self.assertEqual(missing(lambda: closing.ways(one, other)), name)
        self.assertEqual(missing(lambda: Closing([]).ways("a", "a")), "a")
        with self.assertRaises(LandError):
            closing.ways("a", "x")

    def test_asked_again_it_is_the_same(self):
        closing = Closing(CHAIN)
        first = closing.ways("d", "c")
        self.assertEqual(first, ("over", "hascore"))
        self.assertEqual(closing.ways("d", "c"), first)
        self.assertEqual(closing.table(), held(CHAIN))


class TestNarrow(unittest.TestCase):
    def test_it_takes_ways(self):
        closing = Closing(CHAIN)
        self.assertIs(closing.narrow("a", "b", "c"), True)
        self.assertEqual(closing.ways("a", "c"), ("incore",))
        self.assertEqual(closing.ways("c", "a"), ("hascore",))
        self.assertEqual(closing.ways("b", "d"), WAYS)

    def test_a_three_narrowed_twice(self):
        for sayings in LISTS:
            for one, middle, other in permutations(names_of(sayings)[:4], 3):
                closing = Closing(sayings)
                closing.narrow(one, middle, other)
                table = closing.table()
                self.assertIs(closing.narrow(one, middle, other), False)
                self.assertIs(closing.narrow(other, middle, one), False)
                self.assertEqual(closing.table(), table)

    def test_just_the_ways_that_are_led_to_stay(self):
        for sayings in LISTS:
            for one, middle, other in permutations(names_of(sayings)[:4], 3):
                closing = Closing(sayings)
                table = closing.table()
                before = closing.ways(one, other)
                through = led_choices(closing.ways(one, middle), closing.ways(middle, other))
                after = tuple(way for way in before if way in through)
                self.assertIs(closing.narrow(one, middle, other), after != before)
                self.assertEqual(closing.ways(one, other), after)
                two = (min(one, other), max(one, other))
                table[two] = closing.ways(*two)
                self.assertEqual(closing.table(), table)

    def test_one_step_behind_another_as_the_words_tell(self):
        for sayings in LISTS:
            closing, table = Closing(sayings), by_words.held(sayings)
            threes = list(permutations(names_of(sayings), 3))
            Random(len(threes)).shuffle(threes)
            for three in threes + threes[:20]:
                self.assertIs(closing.narrow(*three), by_words.narrow(led, table, *three))
            self.assertEqual(closing.table(), by_words.told(table))

    def test_every_three_single_ways(self):
        for first, last, way in product(WAYS, repeat=3):
            closing = Closing([("a", (first,), "b"), ("b", (last,), "c"), ("c", (turned(way),), "a")])
            stays = way in led(first, last)
            self.assertIs(closing.narrow("a", "b", "c"), not stays)
            self.assertEqual(closing.ways("a", "c"), (way,) if stays else ())

    def test_none_leads_to_none(self):
        closing = Closing([("a", (), "b"), ("b", WAYS, "c")])
        self.assertIs(closing.narrow("a", "b", "c"), True)
        self.assertEqual(closing.table(), {("a", "b"): (), ("a", "c"): (), ("b", "c"): WAYS})
        self.assertIs(closing.narrow("a", "c", "b"), False)

    def test_no_land(self):
        closing = Closing(CHAIN)
        known = ["a", "b", "c"]
        for three in product(["x", "yy", "", *known], repeat=3):
            wrong = [name for name in three if name not in known]
            if wrong:
                self.assertEqual(missing(lambda: closing.narrow(*three)), wrong[0], three)
        self.assertEqual(closing.table(), held(CHAIN))
        self.assertEqual(missing(lambda: Closing([]).narrow("c", "b", "a")), "c")


class TestClose(unittest.TestCase):
    def test_no_sayings_and_two_lands(self):
        self.assertEqual(Closing([]).close(), [])
        self.assertEqual(Closing([]).table(), {})
        closing = Closing([("a", ("over",), "b"), ("b", ("same",), "a")])
        self.assertEqual(closing.close(), [])
        self.assertEqual(closing.table(), {("a", "b"): ()})

    def test_each_step_takes_a_way_in_turn(self):
        for sayings in LISTS:
            closing, again, table = Closing(sayings), Closing(sayings), by_words.held(sayings)
            for step in closing.close():
                self.assertEqual(len(set(step)), 3)
                self.assertIs(again.narrow(*step), True)
                self.assertTrue(by_words.narrow(led, table, *step))
            self.assertEqual(again.table(), closing.table())
            self.assertEqual(closing.table(), by_words.told(table))

    def test_no_narrow_takes_a_way_any_more(self):
        for sayings in LISTS:
            closing = Closing(sayings)
            closing.close()
            table = closing.table()
            for three in permutations(names_of(sayings), 3):
                self.assertIs(closing.narrow(*three), False)
            self.assertEqual(closing.close(), [])
            self.assertEqual(closing.table(), table)

    def test_in_whatever_order(self):
        for sayings in LISTS[::2]:
            right = closed(sayings)
            threes = list(permutations(names_of(sayings), 3))
            for seed in range(3):
                Random(seed).shuffle(threes)
                self.assertEqual(closed_by_words(sayings, threes), right)
                closing = Closing(sayings)
                for three in threes[:5 * seed]:
                    closing.narrow(*three)
                closing.close()
                self.assertEqual(closing.table(), right)

    def test_steps_are_told_where_ways_go(self):
        closing = Closing([("a", ("incore",), "b"), ("b", ("incore",), "c")])
        steps = closing.close()
        self.assertEqual(len(steps), 1)
        self.assertIn(steps[0], [("a", "b", "c"), ("c", "b", "a")])

    def test_the_list_may_be_changed(self):
        closing = Closing(CHAIN)
        steps = closing.close()
        self.assertTrue(steps)
        right = list(steps)
        steps.append(("x", "y", "z"))
        steps.reverse()
        self.assertEqual(closing.close(), [])
        self.assertEqual(closing.table(), closed(CHAIN))
        self.assertEqual(Closing(CHAIN).close(), right)

    def test_two_closings_beside_each_other(self):
        first, second, third = Closing(CHAIN), Closing(CHAIN), Closing([("a", ("meets",), "b"), ("b", (), "c")])
        first.close()
        self.assertEqual(second.table(), held(CHAIN))
        self.assertEqual(third.ways("a", "b"), ("meets",))
        second.narrow("b", "c", "d")
        third.close()
        self.assertEqual(first.table(), closed(CHAIN))
        self.assertEqual(second.ways("a", "d"), WAYS)
        self.assertEqual(missing(lambda: third.ways("a", "d")), "d")
        self.assertEqual(held(CHAIN), Closing(CHAIN).table())


class TestClosed(unittest.TestCase):
    def test_a_chain(self):
        self.assertEqual(closed([("a", ("incore",), "b"), ("b", ("inrim", "incore"), "c")]),
                         {("a", "b"): ("incore",), ("a", "c"): ("incore",), ("b", "c"): ("inrim", "incore")})
        self.assertEqual(closed([]), {})
        self.assertEqual(closed([("b", ("hasrim",), "a")]), {("a", "b"): ("inrim",)})

    def test_what_cannot_be_ends_with_no_way(self):
        told = closed([("a", ("inrim",), "b"), ("b", ("inrim",), "c"), ("c", ("inrim",), "a")])
        self.assertEqual(told, {("a", "b"): (), ("a", "c"): (), ("b", "c"): ()})

    def test_threes_do_not_tell_all(self):
        self.assertTrue(all(closed(NEEDS_CASES).values()))

    def test_as_the_words_tell(self):
        for sayings in LISTS:
            threes = list(permutations(names_of(sayings), 3))
            self.assertEqual(closed(sayings), closed_by_words(sayings, threes), sayings)

    def test_as_close_tells(self):
        for sayings in LISTS:
            closing = Closing(sayings)
            closing.close()
            self.assertEqual(closed(sayings), closing.table())

    def test_no_way_goes_that_is_seen_where_all_sayings_hold(self):
        for seed in range(200):
            drawing, sayings = kept(seed)
            ways = sight(drawing)
            self.assertTrue(all(holds(drawing, saying) for saying in sayings))
            for two, choice in closed(sayings).items():
                self.assertIn(ways[two], choice)

    def test_nothing_is_changed_and_asked_again_it_is_the_same(self):
        for sayings in LISTS:
            before = deepcopy(sayings)
            first = closed(sayings)
            right = dict(first)
            first["a", "b"] = ("over",)
            first["x", "y"] = ()
            self.assertEqual(closed(sayings), right)
            Closing(sayings).close()
            self.assertEqual(sayings, before)


class TestInterface(unittest.TestCase):
    def test_names_and_arguments(self):
        self.assertEqual((Closing.__module__, closed.__module__), ("regionsay.closing", "regionsay.closing"))
        self.assertEqual(list(inspect.signature(Closing).parameters), ["sayings"])
        self.assertEqual(list(inspect.signature(closed).parameters), ["sayings"])
        for name, arguments in {"narrow": ["one", "middle", "other"], "ways": ["one", "other"],
                                "table": [], "close": []}.items():
            self.assertEqual(list(inspect.signature(vars(Closing)[name]).parameters), ["self", *arguments])

    def test_kinds_of_values(self):
        closing = Closing(sayings=CHAIN)
        self.assertIs(closing.narrow(one="a", middle="b", other="c").__class__, bool)
        self.assertIs(closing.ways(one="a", other="c").__class__, tuple)
        steps = closing.close()
        self.assertIs(steps.__class__, list)
        self.assertTrue(all(step.__class__ is tuple for step in steps))
        for told in (closing.table(), closed(sayings=CHAIN)):
            self.assertIs(told.__class__, dict)
            self.assertTrue(all(choice.__class__ is tuple for choice in told.values()))


if __name__ == "__main__":
    unittest.main()
