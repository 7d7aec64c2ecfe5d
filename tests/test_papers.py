import inspect
import unittest
from copy import deepcopy
from itertools import permutations, product

import by_words
from by_words import WAYS
from regionsay.closing import Closing
from regionsay.papers import is_paper
from regionsay.threes import led
from samples import GOOD, NEEDS_CASES, THIRTY, mixed

RING = [("a", ("inrim",), "b"), ("b", ("inrim",), "c"), ("c", ("inrim",), "a")]
RING_PAPER = ([("a", "b", "c")], ("none", "a", "c"))

# "a" within "c" within "b" cannot be apart from "b" or around it.
TWO_CASES = [("a", ("apart", "hascore"), "b"), ("c", ("incore",), "b"), ("a", ("incore",), "c")]
CLOSE_CASE = ([("a", "c", "b")], ("none", "a", "b"))

# For sayings of which narrowing alone, without cases, takes no last way.
ALONE = [("a", "c", "d"), ("b", "a", "d"), ("c", "b", "d"), ("c", "d", "a"), ("a", "c", "b")]
NEEDED = ([], ("cases", "a", "c", [(ALONE, ("none", "a", "b")), (ALONE, ("none", "a", "b"))]))


def right(sayings, paper):
    """Whether a paper is right, as the document's words tell."""
    return _right(by_words.held(sayings), paper)


def _right(table, paper):
    steps, end = paper
    names = {one for one, _ in table}
    for step in steps:
        if len(set(step)) < 3 or not set(step) <= names:
            return False
        by_words.narrow(led, table, *step)
    one, other = end[1:3]
    if one == other or not {one, other} <= names:
        return False
    ways = by_words.in_order(table[one, other])
    if end[0] == "none":
        return not ways
    return len(end[3]) == len(ways) and all([_right(_alone(table, one, way, other), within)
                                             for way, within in zip(ways, end[3])])


def _alone(table, one, way, other):
    table = dict(table)
    table[one, other] = {way}
    table[other, one] = {by_words.ROUND.get(way, way)}
    return table


def changed_papers(paper):
    """Papers that are changed at one place each; most of them are not right."""
    steps, end = paper
    for at in range(len(steps)):
        yield (steps[:at] + steps[at + 1:], end)
        yield (steps[:at] + [steps[at][::-1]] + steps[at + 1:], end)
        yield (steps[:at] + [steps[at], steps[at]] + steps[at + 1:], end)
        yield (steps[:at] + [(steps[at][0], steps[at][1], steps[at][0])] + steps[at + 1:], end)
        yield (steps[:at] + [(steps[at][0], "x", steps[at][2])] + steps[at + 1:], end)
    yield (steps[::-1], end)
    yield (steps, (end[0], end[2], end[1], *end[3:]))
    yield (steps, (end[0], end[1], end[1], *end[3:]))
    yield (steps, (end[0], end[1], "x", *end[3:]))
    yield (steps, (end[0], "x", end[2], *end[3:]))
    if end[0] == "none":
        yield (steps, ("cases", end[1], end[2], []))
        yield (steps, ("cases", end[1], end[2], [paper]))
    else:
        yield from changed_cases(steps, end)


def changed_cases(steps, end):
    head, papers = end[:3], end[3]
    yield (steps, ("none", end[1], end[2]))
    yield (steps, (*head, papers[::-1]))
    yield (steps, (*head, []))
    for at in range(len(papers)):
        yield (steps, (*head, papers[:at] + papers[at + 1:]))
        yield (steps, (*head, papers[:at] + [papers[at], papers[at]] + papers[at + 1:]))
        for within in changed_papers(papers[at]):
            yield (steps, (*head, papers[:at] + [within] + papers[at + 1:]))


def found_paper(sayings, wide):
    """A paper for sayings that cannot be; with wide, of more cases than are needed. None if none is found."""
    closing = Closing(sayings)
    if wide:
        for (one, other), choice in closing.table().items():
            if len(choice) > 1:
                return cases_paper([], sayings, one, choice, other, wide)
    steps = closing.close()
    table = closing.table()
    for (one, other), choice in table.items():
        if not choice:
            return (steps, ("none", one, other))
    for (one, other), choice in table.items():
        if len(choice) > 1:
            return cases_paper(steps, sayings, other, closing.ways(other, one), one, wide)
    return None


def cases_paper(steps, sayings, one, choice, other, wide):
    # A paper begins its cases with a narrowed table, but then narrows it by no less than one that begins anew.
    papers = [found_paper(sayings + [(one, (way,), other)], wide) for way in choice]
    return None if None in papers else (steps, ("cases", one, other, papers))


class TestRightPapers(unittest.TestCase):
    def test_steps_and_none(self):
        self.assertIs(is_paper(RING, RING_PAPER), True)
        self.assertIs(is_paper(RING, ([("a", "b", "c")], ("none", "c", "a"))), True)
        self.assertIs(is_paper(RING, ([("c", "b", "a")], ("none", "a", "c"))), True)
        self.assertIs(is_paper([("a", (), "b")], ([], ("none", "a", "b"))), True)
        self.assertIs(is_paper([("a", ("over",), "b"), ("b", ("same",), "a")], ([], ("none", "b", "a"))), True)

    def test_more_steps_than_are_needed(self):
        steps = [("b", "a", "c"), ("a", "b", "c"), ("a", "b", "c"), ("c", "a", "b")]
        self.assertIs(is_paper(RING, (steps, ("none", "a", "c"))), True)
        self.assertIs(is_paper(RING, (steps, ("none", "b", "c"))), True)

    def test_steps_too_few(self):
        self.assertIs(is_paper(RING, ([], ("none", "a", "c"))), False)
        self.assertIs(is_paper(RING, ([("a", "b", "c")], ("none", "a", "b"))), False)
        self.assertIs(is_paper(NEEDS_CASES, (Closing(NEEDS_CASES).close(), ("none", "a", "b"))), False)
        nest = [("a", ("incore",), "b"), ("b", ("incore",), "c"), ("c", ("incore",), "d"), ("a", ("over",), "d")]
        steps = [("a", "b", "c"), ("a", "c", "d")]
        self.assertIs(is_paper(nest, (steps, ("none", "a", "d"))), True)
        self.assertIs(is_paper(nest, (steps[:1], ("none", "a", "d"))), False)
        self.assertIs(is_paper(nest, (steps[1:], ("none", "a", "d"))), False)

    def test_steps_are_done_in_turn(self):
        nest = [("a", ("incore",), "b"), ("b", ("incore",), "c"), ("c", ("incore",), "d"), ("a", ("over",), "d")]
        self.assertIs(is_paper(nest, ([("a", "c", "d"), ("a", "b", "c")], ("none", "a", "d"))), False)

    def test_no_sayings(self):
        self.assertIs(is_paper([], ([], ("none", "a", "b"))), False)
        self.assertIs(is_paper([], ([], ("cases", "a", "b", []))), False)

    def test_what_can_be_has_no_paper(self):
        sayings = [("a", ("meets", "over"), "b"), ("b", ("inrim",), "c")]
        for one, other in permutations("abc", 2):
            self.assertIs(is_paper(sayings, (list(permutations("abc", 3)), ("none", one, other))), False)


class TestNames(unittest.TestCase):
    def test_a_step_of_no_lands(self):
        for step in (("x", "b", "c"), ("a", "x", "c"), ("a", "b", "x"), ("x", "y", "z"), ("a", "", "c")):
            self.assertIs(is_paper(RING, ([("a", "b", "c"), step], ("none", "a", "c"))), False)
            self.assertIs(is_paper(RING, ([step, ("a", "b", "c")], ("none", "a", "c"))), False)

    def test_a_step_of_names_that_are_alike(self):
        for step in product("abc", repeat=3):
            told = is_paper(RING, ([("a", "b", "c"), step], ("none", "a", "c")))
            self.assertIs(told, len(set(step)) == 3, step)
        self.assertIs(is_paper(RING, ([("x", "x", "x")], ("none", "a", "c"))), False)

    def test_an_end_of_no_lands(self):
        for one, other in (("x", "c"), ("a", "x"), ("x", "y"), ("", "a")):
            self.assertIs(is_paper(RING, ([("a", "b", "c")], ("none", one, other))), False)
            for papers in ([], [RING_PAPER]):
                self.assertIs(is_paper(RING, ([("a", "b", "c")], ("cases", one, other, papers))), False)

    def test_an_end_whose_two_names_are_one(self):
        for name in ("a", "b", "c", "x"):
            self.assertIs(is_paper(RING, ([("a", "b", "c")], ("none", name, name))), False)
            for papers in ([], [RING_PAPER], [RING_PAPER] * 8):
                self.assertIs(is_paper(RING, ([], ("cases", name, name, papers))), False)

    def test_within_cases_too(self):
        for within in (([("a", "b", "x")], ("none", "a", "c")), ([("a", "b", "a")], ("none", "a", "c")),
                       ([("a", "b", "c")], ("none", "a", "a")), ([("a", "b", "c")], ("none", "x", "a"))):
            self.assertIs(is_paper(RING, ([], ("cases", "a", "b", [within]))), False)
            self.assertIs(is_paper(RING, ([("a", "b", "c")], ("cases", "a", "b", [within]))), False)

    def test_names_are_not_looked_for_in_the_papers_alone(self):
        # "d" is a land of the sayings, though nothing that matters is said of it.
        sayings = RING + [("d", WAYS, "a")]
        self.assertIs(is_paper(sayings, ([("a", "d", "c"), ("a", "b", "c")], ("none", "a", "c"))), True)
        self.assertIs(is_paper(RING, ([("a", "d", "c"), ("a", "b", "c")], ("none", "a", "c"))), False)


class TestCases(unittest.TestCase):
    def test_one_paper_for_each_way(self):
        self.assertIs(is_paper(TWO_CASES, ([], ("cases", "a", "b", [CLOSE_CASE, CLOSE_CASE]))), True)
        self.assertIs(is_paper(TWO_CASES, ([], ("cases", "b", "a", [CLOSE_CASE, CLOSE_CASE]))), True)
        self.assertIs(is_paper(NEEDS_CASES, NEEDED), True)

    def test_more_and_fewer(self):
        for many in range(5):
            told = is_paper(TWO_CASES, ([], ("cases", "a", "b", [CLOSE_CASE] * many)))
            self.assertIs(told, many == 2)
            told = is_paper(RING, ([], ("cases", "a", "b", [RING_PAPER] * many)))
            self.assertIs(told, many == 1)

    def test_of_all_eight_ways(self):
        sayings = RING + [("a", WAYS, "d")]
        for many in range(10):
            told = is_paper(sayings, ([], ("cases", "a", "d", [RING_PAPER] * many)))
            self.assertIs(told, many == 8)

    def test_of_a_choice_of_no_way(self):
        never = [("a", (), "b")]
        self.assertIs(is_paper(never, ([], ("cases", "a", "b", []))), True)
        self.assertIs(is_paper(never, ([], ("cases", "b", "a", []))), True)
        self.assertIs(is_paper(never, ([], ("cases", "a", "b", [([], ("none", "a", "b"))]))), False)
        self.assertIs(is_paper(RING, ([("a", "b", "c")], ("cases", "a", "c", []))), True)
        self.assertIs(is_paper(RING, ([("a", "b", "c")], ("cases", "a", "c", [RING_PAPER]))), False)

    def test_the_ways_that_are_left_behind_the_steps_count(self):
        sayings = [("a", ("incore",), "b"), ("b", ("incore",), "c"), ("a", ("over", "incore"), "c"),
                   ("c", ("same", "incore"), "d"), ("d", ("apart", "inrim"), "a")]
        ended = ([("a", "c", "d")], ("none", "a", "d"))
        self.assertEqual(right(sayings, ([("a", "b", "c")], ("cases", "a", "c", [ended]))), True)
        self.assertIs(is_paper(sayings, ([("a", "b", "c")], ("cases", "a", "c", [ended]))), True)
        self.assertIs(is_paper(sayings, ([("a", "b", "c")], ("cases", "a", "c", [ended, ended]))), False)
        self.assertIs(is_paper(sayings, ([], ("cases", "a", "c", [ended]))), False)

    def test_each_paper_is_of_its_own_way_in_order(self):
        # "a" within "b" is refuted by "c" alone, "a" around "b" by "d" alone.
        sayings = [("a", ("incore", "hascore"), "b"), ("b", ("apart",), "c"), ("a", ("over",), "c"),
                   ("a", ("apart",), "d"), ("b", ("over",), "d")]
        by_c = ([("a", "b", "c")], ("none", "a", "c"))
        by_d = ([("b", "a", "d")], ("none", "b", "d"))
        self.assertIs(is_paper(sayings, ([], ("cases", "a", "b", [by_c, by_d]))), True)
        self.assertIs(is_paper(sayings, ([], ("cases", "a", "b", [by_d, by_c]))), False)
        # Told from "b" the ways are turned, and then stand in their own order again.
        self.assertIs(is_paper(sayings, ([], ("cases", "b", "a", [by_d, by_c]))), True)
        self.assertIs(is_paper(sayings, ([], ("cases", "b", "a", [by_c, by_d]))), False)
        for papers in ([by_c, by_c], [by_d, by_d]):
            self.assertIs(is_paper(sayings, ([], ("cases", "a", "b", papers))), False)

    def test_one_wrong_paper_is_enough(self):
        wrong = ([], ("none", "a", "b"))
        for papers in ([CLOSE_CASE, wrong], [wrong, CLOSE_CASE], [wrong, wrong]):
            self.assertIs(is_paper(TWO_CASES, ([], ("cases", "a", "b", papers))), False)

    def test_one_case_does_nothing_to_another(self):
        # The steps of the first paper would make the second right, were they done on one table.
        short = ([], ("none", "a", "b"))
        for papers in ([CLOSE_CASE, short], [short, CLOSE_CASE]):
            self.assertIs(is_paper(TWO_CASES, ([], ("cases", "a", "b", papers))), False)
        never = ([], ("none", "a", "c"))
        self.assertIs(is_paper(RING, ([], ("cases", "a", "b", [never]))), False)

    def test_within_cases_within_cases(self):
        sayings = RING + [("a", ("apart", "meets", "over"), "d"), ("d", ("same", "inrim"), "b")]
        inner = ([], ("cases", "b", "d", [RING_PAPER] * 2))
        paper = ([("a", "d", "c")], ("cases", "d", "a", [inner, RING_PAPER, ([], ("cases", "a", "b", [inner]))]))
        self.assertEqual(right(sayings, paper), is_paper(sayings, paper))
        paper = ([], ("cases", "d", "a", [inner, RING_PAPER, ([], ("cases", "a", "b", [inner]))]))
        self.assertIs(is_paper(sayings, paper), True)
        # A way that went by cases further out is gone within.
        paper = ([], ("cases", "d", "a", [inner, ([], ("cases", "a", "d", [RING_PAPER])), inner]))
        self.assertIs(is_paper(sayings, paper), True)
        paper = ([], ("cases", "d", "a", [inner, ([], ("cases", "a", "d", [RING_PAPER] * 3)), inner]))
        self.assertIs(is_paper(sayings, paper), False)

    def test_sixty_deep_and_somewhat_beyond(self):
        for deep in (60, 61, 200, 2000):
            for ended, wanted in ((RING_PAPER, True), (([], ("none", "a", "c")), False)):
                paper = ended
                for at in range(deep):
                    paper = ([], ("cases", *("ab", "bc", "ca", "ba")[at % 4], [paper]))
                self.assertIs(is_paper(RING, paper), wanted)

    def test_two_thousand_steps_and_somewhat_beyond(self):
        threes = list(permutations("abcdef", 3))
        sayings = THIRTY[:29] + [("a", (), "f")]
        for many in (2000, 2100):
            steps = [threes[7 * at % 120] for at in range(many)]
            self.assertIs(is_paper(sayings, (steps, ("none", "b", "c"))), True)
            self.assertIs(is_paper(sayings, (steps + [("a", "b", "a")], ("none", "b", "c"))), False)


class TestAsTheWordsTell(unittest.TestCase):
    def papers(self):
        """Sayings that cannot be, each with a right paper."""
        found = [(RING, RING_PAPER), (NEEDS_CASES, NEEDED),
                 (TWO_CASES, ([], ("cases", "b", "a", [CLOSE_CASE, CLOSE_CASE])))]
        for sayings in GOOD + [mixed(seed) for seed in range(60)]:
            for wide in (False, True):
                if len(sayings) < 4 or not wide:
                    paper = found_paper(sayings, wide) if self.cannot_be(sayings) else None
                    if paper is not None:
                        found.append((sayings, paper))
        return found

    def cannot_be(self, sayings):
        return not all(Closing(sayings).table().values()) or not all(self.closed(sayings).values())

    def closed(self, sayings):
        closing = Closing(sayings)
        closing.close()
        return closing.table()

    def test_papers_and_such_that_are_changed_at_one_place(self):
        rights = wrongs = 0
        for sayings, paper in self.papers():
            self.assertIs(is_paper(sayings, paper), True, (sayings, paper))
            self.assertTrue(right(sayings, paper))
            for at, other in enumerate(changed_papers(paper)):
                if at < 400:
                    wanted = right(sayings, other)
                    self.assertIs(is_paper(sayings, other), wanted, (sayings, other))
                    rights, wrongs = rights + wanted, wrongs + (not wanted)
        self.assertGreater(rights, 100)
        self.assertGreater(wrongs, 500)

    def test_papers_of_other_sayings(self):
        told = self.papers()[:30]
        for (_, paper), (sayings, _) in product(told, told):
            self.assertIs(is_paper(sayings, paper), right(sayings, paper))


class TestNothingIsChanged(unittest.TestCase):
    def test_compared_with_a_copy_made_ahead(self):
        inner = ([("b", "a", "c")], ("cases", "b", "c", [RING_PAPER]))
        for sayings, paper in ((RING, RING_PAPER), (RING, ([], ("cases", "a", "b", [inner]))), (NEEDS_CASES, NEEDED),
                               (RING, ([("a", "b", "c")], ("none", "a", "b"))), ([], RING_PAPER)):
            before = deepcopy((sayings, paper))
            first = is_paper(sayings, paper)
            self.assertEqual((sayings, paper), before)
            self.assertIs(is_paper(sayings, paper), first)
            self.assertEqual((sayings, paper), before)


class TestInterface(unittest.TestCase):
    def test_names_and_arguments(self):
        self.assertEqual(is_paper.__module__, "regionsay.papers")
        self.assertEqual(list(inspect.signature(is_paper).parameters), ["sayings", "paper"])


if __name__ == "__main__":
    unittest.main()
