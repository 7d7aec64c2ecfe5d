import inspect
import unittest
from copy import deepcopy

from by_words import WAYS
from looks import holds, keeps, names_of, refused, shares_none, spoil
from regionsay import quarrels
from regionsay.papers import is_paper
from regionsay.quarrels import needed, quarrel
from regionsay.search import follows, settled
from samples import BAD, GOOD, HARD, NEEDS_CASES, THIRTY, kept, mixed

LISTS = GOOD + [mixed(seed) for seed in range(120)]
RING = [("a", ("inrim",), "b"), ("b", ("inrim",), "c"), ("c", ("inrim",), "a")]
OVER_AND_SAME = [("a", ("over",), "b"), ("b", ("same",), "a")]


def picked(sayings, numbers):
    return [sayings[number] for number in numbers]


def left_out_from_the_last_on(sayings, goes):
    """The numbers that are left when each is left out of which goes tells so, of the others and itself."""
    left = list(range(len(sayings)))
    for number in sorted(left, reverse=True):
        others = [other for other in left if other != number]
        if goes(picked(sayings, others), sayings[number]):
            left = others
    return left


class TestQuarrel(unittest.TestCase):
    def look_at(self, sayings):
        """Looks whether what is told is right, and gives the numbers; None if none quarrel."""
        told = quarrel(sayings)
        if told is None:
            self.assertEqual(settled(sayings)[0], "drawn")
            return None
        self.assertEqual((told.__class__, len(told)), (tuple, 3))
        numbers, paper, drawings = told
        self.assertEqual(numbers, sorted(set(numbers)))
        self.assertIs(is_paper(picked(sayings, numbers), paper), True)
        self.assertIs(drawings.__class__, list)
        self.assertEqual(len(drawings), len(numbers))
        for number, drawing in zip(numbers, drawings):
            self.assertTrue(keeps(drawing, picked(sayings, [other for other in numbers if other != number])))
        return numbers

    def test_no_sayings_and_such_as_can_be(self):
        self.assertIsNone(quarrel([]))
        self.assertIsNone(quarrel([("a", WAYS, "b")]))
        for seed in range(60):
            self.assertIsNone(quarrel(kept(seed)[1]))

    def test_of_two(self):
        self.assertEqual(self.look_at(OVER_AND_SAME), [0, 1])
        self.assertEqual(self.look_at([("c", ("over",), "d"), OVER_AND_SAME[0], ("b", ("meets",), "c"),
                                       OVER_AND_SAME[1], ("a", WAYS, "d")]), [1, 3])

    def test_of_three(self):
        self.assertEqual(self.look_at(RING), [0, 1, 2])
        self.assertEqual(self.look_at([("d", ("over",), "a"), *RING[:2], ("d", ("over",), "b"), RING[2]]), [1, 2, 4])

    def test_of_one_alone_with_no_way(self):
        self.assertEqual(self.look_at([("a", (), "b")]), [0])
        self.assertEqual(quarrel([("a", (), "b")])[2], [[]])
        self.assertEqual(self.look_at([("a", WAYS, "b"), ("b", (), "a"), ("c", ("over",), "b")]), [1])

    def test_those_that_are_behind_go_first(self):
        # Of these lists one or the other saying could be left out, and a quarrel would stay.
        self.assertEqual(self.look_at([("a", ("over",), "b"), ("a", ("same",), "b"), ("b", ("meets",), "a")]), [0, 1])
        self.assertEqual(self.look_at([("a", ("over",), "b"), ("b", ("over",), "a"), ("a", ("same",), "b")]), [0, 2])
        self.assertEqual(self.look_at([("a", (), "b"), ("c", (), "d"), ("e", (), "f")]), [0])
        self.assertEqual(self.look_at([("c", ("over",), "d"), *RING, *OVER_AND_SAME]), [1, 2, 3])
        self.assertEqual(self.look_at([*OVER_AND_SAME, *RING]), [0, 1])
        self.assertEqual(self.look_at([OVER_AND_SAME[0], *RING, OVER_AND_SAME[1]]), [0, 1])
        self.assertEqual(self.look_at([RING[0], OVER_AND_SAME[1], *RING[1:]]), [0, 1])

    def test_said_twice(self):
        self.assertEqual(self.look_at(RING + RING), [0, 1, 2])
        self.assertEqual(self.look_at([RING[0], RING[0], RING[1], RING[1], RING[2], RING[2]]), [0, 2, 4])

    def test_each_list(self):
        many = 0
        for sayings in LISTS:
            numbers = self.look_at(sayings)
            if numbers is not None:
                many += 1
                wanted = left_out_from_the_last_on(sayings, lambda others, _: settled(others)[0] == "none")
                self.assertEqual(numbers, wanted, sayings)
        self.assertGreater(many, 40)

    def test_cases_are_needed(self):
        for sayings in (NEEDS_CASES, HARD):
            self.assertTrue(self.look_at(sayings))

    def test_thirty(self):
        self.look_at(THIRTY)
        self.assertEqual(self.look_at([("c", WAYS, "d")] * 28 + OVER_AND_SAME), [28, 29])

    def test_bad_sayings(self):
        for sayings, at, why in BAD:
            self.assertEqual(refused(lambda: quarrel(sayings)), ("BadSaying", at, why))


class TestNeeded(unittest.TestCase):
    def look_at(self, sayings):
        """Looks whether what is told is right, and gives the numbers that are left."""
        told = needed(sayings)
        self.assertEqual((told.__class__, len(told)), (tuple, 3))
        numbers, papers, drawings = told
        self.assertEqual((papers.__class__, drawings.__class__), (list, list))
        self.assertEqual(numbers, sorted(set(numbers)))
        self.assertEqual([number for number, _ in drawings], numbers)
        self.assertEqual([number for number, _ in papers],
                         [number for number in range(len(sayings)) if number not in numbers])
        for number, paper in papers:
            one, choice, other = sayings[number]
            rest = tuple(way for way in WAYS if way not in choice)
            self.assertIs(is_paper([*picked(sayings, numbers), (one, rest, other)], paper), True)
            self.assertEqual(follows(picked(sayings, numbers), sayings[number]), ("yes", paper))
        for number, drawing in drawings:
            others = picked(sayings, [other for other in numbers if other != number])
            self.assertTrue(keeps(drawing, others, names_of([*others, sayings[number]])))
            self.assertFalse(holds(drawing, sayings[number]))
            self.assertEqual(follows(others, sayings[number]), ("no", drawing))
        return numbers

    def test_no_sayings(self):
        self.assertEqual(needed([]), ([], [], []))

    def test_of_one(self):
        self.assertEqual(self.look_at([("a", ("over",), "b")]), [0])
        self.assertEqual(self.look_at([("a", (), "b")]), [0])
        self.assertEqual(self.look_at([("a", WAYS, "b")]), [])

    def test_said_twice_and_turned_about(self):
        self.assertEqual(self.look_at([("a", ("inrim",), "b"), ("a", ("inrim",), "b")]), [0])
        self.assertEqual(self.look_at([("a", ("inrim",), "b"), ("b", ("hasrim",), "a")]), [0])
        self.assertEqual(self.look_at([("a", ("inrim", "hascore"), "b"), ("b", ("incore", "hasrim"), "a")]), [0])
        self.assertEqual(self.look_at([("a", ("inrim", "incore"), "b"), ("b", ("hasrim",), "a")]), [1])
        self.assertEqual(self.look_at([("b", ("hasrim",), "a"), ("a", ("inrim", "incore"), "b")]), [0])

    def test_what_is_led_to_is_left_out(self):
        chain = [("a", ("incore",), "b"), ("b", ("incore",), "c"), ("a", ("incore",), "c")]
        self.assertEqual(self.look_at(chain), [0, 1])
        self.assertEqual(self.look_at(chain[::-1]), [1, 2])
        self.assertEqual(self.look_at([chain[0], chain[2], chain[1]]), [0, 2])

    def test_of_two_that_serve_alike_the_first_stays(self):
        # With "a" the same as "b", what is said of one of them to "c" follows from what is said of the other one.
        same = [("a", ("same",), "b"), ("a", ("meets",), "c"), ("b", ("meets",), "c")]
        self.assertEqual(self.look_at(same), [0, 1])
        self.assertEqual(self.look_at([same[2], same[1], same[0]]), [0, 2])
        self.assertEqual(self.look_at([same[0], same[2], same[1]]), [0, 1])

    def test_together_they_say_more(self):
        both = [("a", ("over", "same"), "b"), ("a", ("meets", "same"), "b")]
        self.assertEqual(self.look_at([*both, ("b", ("same",), "a")]), [0, 1])
        self.assertEqual(self.look_at([("b", ("same",), "a"), *both]), [0])
        self.assertEqual(self.look_at([both[0], ("b", ("same",), "a"), both[1]]), [1])

    def test_from_what_cannot_be_all_follows(self):
        self.assertEqual(self.look_at([*OVER_AND_SAME, ("c", ("meets",), "d")]), [0, 1])
        self.assertEqual(self.look_at([("c", ("meets",), "d"), *OVER_AND_SAME]), [1, 2])
        self.assertEqual(self.look_at([("c", ("meets",), "d"), *RING, ("e", (), "f")]), [1, 2, 3])
        self.assertEqual(self.look_at([("e", (), "f"), *RING]), [0])

    def test_each_list(self):
        for sayings in LISTS:
            numbers = self.look_at(sayings)
            wanted = left_out_from_the_last_on(sayings, lambda others, said: follows(others, said)[0] == "yes")
            self.assertEqual(numbers, wanted, sayings)

    def test_of_lists_that_a_drawing_keeps(self):
        for seed in range(60):
            self.look_at(kept(seed)[1])

    def test_thirty(self):
        self.assertEqual(len(THIRTY), 30)
        self.look_at(THIRTY)
        self.assertEqual(self.look_at([("a", ("meets", "over"), "b")] * 30), [0])

    def test_bad_sayings(self):
        for sayings, at, why in BAD:
            self.assertEqual(refused(lambda: needed(sayings)), ("BadSaying", at, why))


class TestWhatIsToldMayBeChanged(unittest.TestCase):
    def test_asked_again_it_is_the_same_and_nothing_is_changed(self):
        for question in (quarrel, needed):
            for sayings in LISTS[:40]:
                before = deepcopy(sayings)
                first = question(sayings)
                right = deepcopy(first)
                self.assertTrue(shares_none(first))
                spoil(first)
                self.assertEqual(sayings, before)
                second = question(sayings)
                self.assertEqual(second, right)
                spoil(second)
                self.assertEqual(question(sayings), right)


class TestInterface(unittest.TestCase):
    def test_names_and_arguments(self):
        for name in ("quarrel", "needed"):
            told = getattr(quarrels, name)
            self.assertEqual(told.__module__, "regionsay.quarrels")
            self.assertEqual(list(inspect.signature(told).parameters), ["sayings"])

    def test_numbers_are_a_list(self):
        self.assertIs(quarrel(RING)[0].__class__, list)
        self.assertIs(needed(RING)[0].__class__, list)


if __name__ == "__main__":
    unittest.main()
