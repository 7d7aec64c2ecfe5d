import inspect
import unittest
from copy import deepcopy
from itertools import combinations, product
from random import Random

import by_words
from by_words import WAYS, in_order
from looks import holds, is_drawing, keeps, names_of, refused, shares_none, spoil, steps_and_depth
from regionsay import search
from regionsay.closing import Closing, closed
from regionsay.errors import NoDrawing
from regionsay.papers import is_paper
from regionsay.pruning import pruned
from regionsay.search import example, follows, may, settled
from regionsay.threes import led, turned
from samples import BAD, GOOD, HARD, NEEDS_CASES, THIRTY, kept, mixed

LISTS = GOOD + [mixed(seed) for seed in range(80)]

# What holds in one drawing of six lands: each two of them by one way alone, and by loose choices.
SIX = [[("a", "b", "f"), ("b",)], [("b", "c"), ("c", "d", "e")], [("c", "e"), ()]]
SIX_STRICT = [(one, (way,), other) for (one, other), way in by_words.sight(SIX).items()]
SIX_LOOSE = [(other, in_order({turned(way), WAYS[at % 8], WAYS[3 * at % 8]}), one)
             for at, ((one, other), way) in enumerate(by_words.sight(SIX).items())]


def every_three():
    return product(WAYS, repeat=3)


def three_sayings(one, other, third):
    return [("a", (one,), "b"), ("b", (other,), "c"), ("a", (third,), "c")]


class TestSettled(unittest.TestCase):
    def look_at(self, sayings):
        """Looks whether what is told of these is right, and gives the word that it begins with."""
        told = settled(sayings)
        self.assertEqual((told.__class__, len(told)), (tuple, 2))
        if told[0] == "drawn":
            self.assertTrue(keeps(told[1], sayings), sayings)
        else:
            self.assertEqual(told[0], "none")
            self.assertIs(is_paper(sayings, told[1]), True, sayings)
        return told[0]

    def test_no_sayings_are_drawn_as_no_strips(self):
        self.assertEqual(settled([]), ("drawn", []))

    def test_each_list(self):
        words = [self.look_at(sayings) for sayings in LISTS]
        self.assertGreater(words.count("drawn"), 20)
        self.assertGreater(words.count("none"), 20)

    def test_each_single_way(self):
        for way in WAYS:
            self.assertEqual(self.look_at([("a", (way,), "b")]), "drawn")
            self.assertEqual(self.look_at([("b", (way,), "a")]), "drawn")
            self.assertEqual(self.look_at([("b", (way,), "a"), ("a", (turned(way),), "b")]), "drawn")

    def test_none_and_all(self):
        self.assertEqual(self.look_at([("a", (), "b")]), "none")
        self.assertEqual(self.look_at([("b", (), "a"), ("a", WAYS, "b")]), "none")
        self.assertEqual(self.look_at([("a", WAYS, "b")]), "drawn")
        self.assertEqual(self.look_at([("a", WAYS, "b"), ("c", WAYS, "d"), ("e", WAYS, "f")]), "drawn")
        self.assertEqual(self.look_at([("a", WAYS, "b"), ("c", (), "d"), ("e", WAYS, "f")]), "none")

    def test_thirty(self):
        self.look_at(THIRTY)
        self.assertEqual(self.look_at([("a", WAYS, "b")] * 30), "drawn")
        self.assertEqual(self.look_at([("a", WAYS, "b")] * 29 + [("b", (), "a")]), "none")
        self.assertEqual(self.look_at(SIX_STRICT + SIX_LOOSE), "drawn")

    def test_six_lands(self):
        self.assertEqual(len(SIX_STRICT), 15)
        self.assertEqual(set(by_words.sight(SIX).values()), set(WAYS))
        for sayings in (SIX_STRICT, SIX_LOOSE, SIX_STRICT[::2], SIX_LOOSE[::3], SIX_STRICT[:7] + SIX_LOOSE[7:]):
            self.assertEqual(self.look_at(sayings), "drawn")
        for at, (one, choice, other) in enumerate(SIX_STRICT):
            others = tuple(way for way in WAYS if way not in choice)
            self.look_at(SIX_STRICT[:at] + [(one, others, other)] + SIX_STRICT[at + 1:])

    def test_sayings_that_hold_in_a_drawing_are_drawn(self):
        for seed in range(150):
            self.assertEqual(self.look_at(kept(seed)[1]), "drawn")

    def test_every_three_single_ways(self):
        for one, other, third in every_three():
            word = self.look_at(three_sayings(one, other, third))
            self.assertEqual(word, "drawn" if third in led(one, other) else "none")

    def test_single_ways_of_four_lands(self):
        random = Random(4)
        words = []
        for _ in range(300):
            words.append(self.look_at([(one, (random.choice(WAYS),), other) for one, other in combinations("abcd", 2)]))
        self.assertIn("none", words)

    def test_what_is_seen_in_a_drawing_of_six_lands_is_drawn(self):
        random = Random(6)
        plots = by_words.kinds("abcdef")
        for _ in range(60):
            drawing = [[(name,)] for name in "abcdef"]
            drawing += [random.choices(plots, k=random.choice([1, 2, 3])) for _ in range(random.randrange(4))]
            ways = by_words.sight(drawing)
            self.assertEqual(self.look_at([(one, (way,), other) for (one, other), way in ways.items()]), "drawn")

    def test_what_is_seen_where_lands_lie_within_each_other_is_drawn(self):
        random = Random(66)
        for _ in range(150):
            # Of the plots of each land all are those of some other ones, so that many are within each other.
            grounds = {name: random.sample("pqrs", random.randrange(1, 5)) for name in "abcdef"}
            strips = [random.choices("pqrs.", k=random.choice([1, 2, 3, 4])) for _ in range(5)] + [list("pqrs")]
            drawing = [[tuple(name for name in "abcdef" if ground in grounds[name]) for ground in strip]
                       for strip in strips]
            ways = by_words.sight(drawing)
            self.assertEqual(self.look_at([(one, (way,), other) for (one, other), way in ways.items()]), "drawn")

    def test_threes_take_nothing_though_no_drawing_keeps_them(self):
        for sayings in (NEEDS_CASES, HARD):
            self.assertTrue(all(closed(sayings).values()))
            self.assertEqual(self.look_at(sayings), "none")
            self.assertEqual(settled(sayings)[1][1][0], "cases")

    def test_closing_by_threes_takes_nothing_at_all_though_no_drawing_keeps_them(self):
        for sayings in (NEEDS_CASES, HARD):
            narrowed = [(one, choice, other) for (one, other), choice in closed(sayings).items()]
            self.assertEqual(Closing(narrowed).close(), [])
            self.assertEqual(self.look_at(narrowed), "none")

    def test_papers_may_be_handed_in_again(self):
        for sayings in [NEEDS_CASES, HARD, *LISTS]:
            word, told = settled(sayings)
            if word == "none":
                steps, depth = steps_and_depth(told)
                self.assertLessEqual(steps, 2000)
                self.assertLessEqual(depth, 60)
                # What shows nothing is left out already, so that they stay that short.
                self.assertEqual(pruned(told), told)

    def test_bad_sayings(self):
        for sayings, at, why in BAD:
            self.assertEqual(refused(lambda: settled(sayings)), ("BadSaying", at, why))


class TestMay(unittest.TestCase):
    def look_at(self, sayings, one, other):
        """Looks whether what is told is right, and gives the ways of which a drawing is told."""
        told = may(sayings, one, other)
        self.assertEqual([way for way, _ in told], list(WAYS))
        for way, (word, shown) in told:
            if word == "drawn":
                self.assertTrue(keeps(shown, sayings), sayings)
                self.assertEqual(by_words.seen(shown, one, other), way)
            else:
                self.assertEqual(word, "none")
                self.assertIs(is_paper([*sayings, (one, (way,), other)], shown), True)
        return [way for way, (word, _) in told if word == "drawn"]

    def test_each_list(self):
        for at, sayings in enumerate(LISTS):
            pairs = list(combinations(names_of(sayings), 2))
            for one, other in pairs[at % 3::4] if len(sayings) < 30 else []:
                found = self.look_at(sayings, one, other)
                self.assertEqual(bool(found), settled(sayings)[0] == "drawn")
                back = self.look_at(sayings, other, one)
                self.assertEqual(back, list(in_order({turned(way) for way in found})))

    def test_just_what_is_said_of_two_lands(self):
        for choice in (("meets",), ("over", "hascore"), ("apart", "inrim", "incore"), (), WAYS):
            self.assertEqual(self.look_at([("a", choice, "b")], "a", "b"), list(choice))
            self.assertEqual(self.look_at([("b", choice, "a")], "b", "a"), list(choice))

    def test_what_is_led_to(self):
        for one, other in product(WAYS, repeat=2):
            found = self.look_at([("a", (one,), "b"), ("b", (other,), "c")], "a", "c")
            self.assertEqual(found, list(led(one, other)))

    def test_more_goes_than_by_threes(self):
        # Of these "a" to "c" keeps its two ways by threes, and each of them is refuted by cases alone.
        self.assertEqual(closed(NEEDS_CASES)["a", "c"], ("incore", "hascore"))
        self.assertEqual(self.look_at(NEEDS_CASES, "a", "c"), [])
        self.assertEqual(self.look_at(HARD, "a", "b"), [])

    def test_lands_of_which_nothing_is_said(self):
        sayings = [("a", ("same",), "b"), ("c", WAYS, "d")]
        self.assertEqual(self.look_at(sayings, "a", "d"), list(WAYS))
        self.assertEqual(self.look_at(sayings, "d", "c"), list(WAYS))
        self.assertEqual(self.look_at(sayings, "a", "b"), ["same"])

    def test_six_lands(self):
        self.assertEqual(self.look_at(SIX_STRICT, "f", "b"), [turned(by_words.seen(SIX, "b", "f"))])
        for one, other in (("a", "d"), ("e", "c"), ("f", "d")):
            self.assertIn(by_words.seen(SIX, one, other), self.look_at(SIX_LOOSE, one, other))

    def test_of_thirty_sayings(self):
        sayings = [("a", ("over", "inrim"), "b")] + [("b", WAYS, "c")] * 29
        told = may(sayings, "b", "a")
        self.assertEqual([way for way, (word, _) in told if word == "drawn"], ["over", "hasrim"])
        for way, (word, shown) in told:
            if word == "drawn":
                self.assertTrue(keeps(shown, [*sayings, ("b", (way,), "a")]))
            else:
                # A list of thirty-one is refused, but the first thirty and the one behind say as much as these do.
                self.assertIs(is_paper([*sayings[:29], ("b", (way,), "a")], shown), True)

    def test_no_land(self):
        sayings = [("a", ("over",), "b"), ("c", (), "a")]
        for one, other, name in (("x", "a", "x"), ("a", "x", "x"), ("x", "y", "x"), ("y", "x", "y"), ("x", "x", "x"),
                                 ("", "a", ""), ("a", "ab", "ab"), ("A", "a", "A")):
            self.assertEqual(refused(lambda: may(sayings, one, other)), ("NoLand", name))
        self.assertEqual(refused(lambda: may([], "b", "a")), ("NoLand", "b"))

    def test_bad_sayings_are_refused_ahead(self):
        for sayings, at, why in BAD:
            for one, other in (("a", "b"), ("x", "y"), ("a", "x")):
                self.assertEqual(refused(lambda: may(sayings, one, other)), ("BadSaying", at, why))


class TestFollows(unittest.TestCase):
    def look_at(self, sayings, saying):
        """Looks whether what is told is right, and gives the word that it begins with."""
        one, choice, other = saying
        told = follows(sayings, saying)
        self.assertEqual((told.__class__, len(told)), (tuple, 2))
        if told[0] == "yes":
            rest = tuple(way for way in WAYS if way not in choice)
            self.assertIs(is_paper([*sayings, (one, rest, other)], told[1]), True)
        else:
            self.assertEqual(told[0], "no")
            self.assertTrue(keeps(told[1], sayings, names_of([*sayings, saying])))
            self.assertFalse(holds(told[1], saying))
        return told[0]

    def test_what_is_led_to_follows_and_less_does_not(self):
        for one, other in product(WAYS, repeat=2):
            sayings = [("a", (one,), "b"), ("b", (other,), "c")]
            choice = led(one, other)
            self.assertEqual(self.look_at(sayings, ("a", choice, "c")), "yes")
            self.assertEqual(self.look_at(sayings, ("a", choice[1:], "c")), "no")
            self.assertEqual(self.look_at(sayings, ("a", choice[:-1], "c")), "no")
            back = in_order({turned(way) for way in choice})
            self.assertEqual(self.look_at(sayings, ("c", back, "a")), "yes")
            self.assertEqual(self.look_at(sayings, ("c", back[1:], "a")), "no")

    def test_all_ways(self):
        for sayings in ([], [("a", ("over",), "b")], [("c", WAYS, "d")], SIX_STRICT):
            self.assertEqual(self.look_at(sayings, ("b", WAYS, "a")), "yes")

    def test_no_way(self):
        for sayings in ([], [("a", ("over",), "b")], [("c", WAYS, "d")], SIX_STRICT):
            self.assertEqual(self.look_at(sayings, ("b", (), "a")), "no")
        self.assertEqual(self.look_at([("b", (), "a")], ("b", (), "a")), "yes")
        self.assertEqual(self.look_at([("b", (), "a")], ("c", (), "d")), "yes")

    def test_of_a_land_that_no_other_saying_names(self):
        sayings = [("a", ("incore",), "b")]
        for choice in (("over",), WAYS[1:], WAYS[:-1], ()):
            self.assertEqual(self.look_at(sayings, ("x", choice, "a")), "no")
            self.assertEqual(self.look_at(sayings, ("x", choice, "y")), "no")
            self.assertEqual(self.look_at([], ("x", choice, "y")), "no")
        self.assertEqual(self.look_at(sayings, ("x", WAYS, "y")), "yes")

    def test_from_what_cannot_be_all_follows(self):
        for sayings in ([("a", (), "b")], NEEDS_CASES, three_sayings("same", "same", "over")):
            for saying in (("a", ("meets",), "b"), ("a", (), "c"), ("x", ("over",), "a")):
                self.assertEqual(self.look_at(sayings, saying), "yes")

    def test_each_list(self):
        words = []
        for at, sayings in enumerate(LISTS):
            if sayings and len(sayings) < 30:
                words.append(self.look_at(sayings[:-1], sayings[-1]))
                words.append(self.look_at(sayings, ("a", WAYS[at % 8:], "b") if len(names_of(sayings)) < 5
                                          else sayings[0]))
        self.assertGreater(words.count("yes"), 20)
        self.assertGreater(words.count("no"), 20)

    def test_refused_as_the_list_with_this_one_behind(self):
        for sayings, at, why in BAD:
            if len(sayings) <= 31:
                self.assertEqual(refused(lambda: follows(sayings[:-1], sayings[-1])), ("BadSaying", at, why))
            if len(sayings) < 30:
                self.assertEqual(refused(lambda: follows(sayings, ("A", (), "A"))), ("BadSaying", at, why))
        five = [("a", WAYS, "b"), ("c", WAYS, "d"), ("e", WAYS, "a")]
        self.assertEqual(refused(lambda: follows(five, ("f", WAYS, "g"))), ("BadSaying", 3, "many"))
        self.assertIsNone(refused(lambda: follows(five, ("f", WAYS, "e"))))

    def test_thirty_and_thirty_one(self):
        self.assertEqual(self.look_at(THIRTY[:29], THIRTY[29]), follows(THIRTY[:29], THIRTY[29])[0])
        for saying in (("a", WAYS, "b"), ("A", ("x",), "A")):
            self.assertEqual(refused(lambda: follows(THIRTY, saying)), ("BadSaying", 30, "many"))


class TestExample(unittest.TestCase):
    def test_every_three_of_ways(self):
        drawn = 0
        for one, other, third in every_three():
            if third in led(one, other):
                drawing = example(one, other, third)
                self.assertTrue(is_drawing(drawing, "abc"))
                self.assertEqual(by_words.sight(drawing), {("a", "b"): one, ("b", "c"): other, ("a", "c"): third})
                drawn += 1
            else:
                with self.assertRaises(NoDrawing) as caught:
                    example(one, other, third)
                self.assertIs(is_paper(three_sayings(one, other, third), caught.exception.paper), True)
        self.assertTrue(0 < drawn < 512)

    def test_the_third_is_of_a_to_c(self):
        self.assertEqual(by_words.seen(example("incore", "incore", "incore"), "a", "c"), "incore")
        self.assertEqual(refused(lambda: example("incore", "incore", "hascore"))[0], "NoDrawing")


class TestWhatIsToldMayBeChanged(unittest.TestCase):
    def asked(self):
        """Questions, each with what is handed in."""
        for sayings in ([], NEEDS_CASES, SIX_LOOSE, *GOOD, *LISTS[20:40]):
            yield settled, [sayings]
            for one, other in list(combinations(names_of(sayings), 2))[:2]:
                yield may, [sayings, one, other]
            if 0 < len(sayings):
                yield follows, [sayings[1:], sayings[0]]
        for one, other, third in (("over", "same", "over"), ("meets", "incore", "inrim")):
            yield example, [one, other, third]

    def test_asked_again_it_is_the_same_and_nothing_is_changed(self):
        for question, handed_in in self.asked():
            before = deepcopy(handed_in)
            first = question(*handed_in)
            right = deepcopy(first)
            self.assertTrue(shares_none(first))
            self.assertEqual(handed_in, before)
            spoil(first)
            self.assertEqual(handed_in, before)
            second = question(*handed_in)
            self.assertEqual(second, right)
            spoil(second)
            self.assertEqual(question(*handed_in), right)

    def test_a_paper_that_is_refused_with(self):
        papers = []
        for _ in range(2):
            with self.assertRaises(NoDrawing) as caught:
                example("same", "same", "apart")
            papers.append(deepcopy(caught.exception.paper))
            spoil(caught.exception.paper)
        self.assertEqual(papers[0], papers[1])


class TestInterface(unittest.TestCase):
    def test_names_and_arguments(self):
        for name, arguments in {"settled": ["sayings"], "follows": ["sayings", "saying"],
                                "may": ["sayings", "one", "other"], "example": ["one", "other", "third"]}.items():
            told = getattr(search, name)
            self.assertEqual(told.__module__, "regionsay.search")
            self.assertEqual(list(inspect.signature(told).parameters), arguments)

    def test_kinds_of_values(self):
        told = may([("a", ("over",), "b")], "a", "b")
        self.assertIs(told.__class__, list)
        self.assertTrue(all(row.__class__ is tuple and len(row) == 2 for row in told))
        self.assertTrue(all(shown.__class__ is tuple and len(shown) == 2 for _, shown in told))


if __name__ == "__main__":
    unittest.main()
