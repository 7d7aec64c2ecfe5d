import unittest
from copy import deepcopy
from itertools import permutations
from random import Random

from looks import names_of, shares_none, steps_and_depth
from regionsay.closing import closed
from regionsay.papers import is_paper
from regionsay.pruning import pruned
from samples import GOOD, HARD, NEEDS_CASES, mixed

RING = [("a", ("inrim",), "b"), ("b", ("inrim",), "c"), ("c", ("inrim",), "a")]
RING_PAPER = ([("a", "b", "c")], ("none", "a", "c"))


def wide_paper(sayings, random):
    """A right paper with steps at random and cases that may show nothing, for sayings that cannot be."""
    threes = list(permutations(names_of(sayings), 3))
    steps = random.sample(threes, min(len(threes), 5))
    table = closed(sayings)
    emptied = [two for two, choice in table.items() if not choice]
    unsettled = [two for two, choice in table.items() if len(choice) > 1]
    if emptied:
        return (steps + threes * 12, ("none", *random.choice(emptied)))
    one, other = random.choice(unsettled)
    papers = [wide_paper([*sayings, (one, (way,), other)], random) for way in table[one, other]]
    return (steps + threes * 12, ("cases", one, other, papers))


class TestPruned(unittest.TestCase):
    def test_steps_that_show_nothing(self):
        steps = [("c", "b", "a"), ("b", "a", "c"), ("a", "b", "c"), ("b", "c", "a")]
        self.assertEqual(pruned((steps, ("none", "c", "a"))), (steps[:3], ("none", "c", "a")))
        self.assertEqual(pruned((steps[2:], ("none", "c", "a"))), (steps[2:3], ("none", "c", "a")))
        sayings = [*RING, ("d", ("over",), "a")]
        paper = ([("d", "a", "b"), ("b", "a", "d"), ("a", "b", "c"), ("b", "c", "d")], ("none", "a", "c"))
        self.assertIs(is_paper(sayings, paper), True)
        self.assertEqual(pruned(paper), RING_PAPER)

    def test_cases_that_show_nothing(self):
        self.assertEqual(pruned(([], ("cases", "d", "a", [RING_PAPER] * 3))), RING_PAPER)
        within = ([], ("cases", "d", "b", [RING_PAPER] * 8))
        self.assertEqual(pruned(([("a", "b", "d")], ("cases", "d", "a", [RING_PAPER, within]))), RING_PAPER)

    def test_what_shows_something_stays(self):
        self.assertEqual(pruned(RING_PAPER), RING_PAPER)
        self.assertEqual(pruned(([], ("none", "a", "b"))), ([], ("none", "a", "b")))
        self.assertEqual(pruned(([], ("cases", "a", "b", []))), ([], ("cases", "a", "b", [])))
        paper = ([], ("cases", "a", "b", [RING_PAPER] * 2))
        self.assertEqual(pruned(paper), paper)

    def test_it_stays_right_and_grows_no_longer(self):
        random = Random(10)
        for sayings in [NEEDS_CASES, *GOOD, *[mixed(seed) for seed in range(40)]]:
            if sayings != HARD and not all(closed(sayings).values()) or sayings == NEEDS_CASES:
                paper = wide_paper(sayings, random)
                before = deepcopy(paper)
                told = pruned(paper)
                self.assertEqual(paper, before)
                self.assertTrue(shares_none(paper, told))
                self.assertIs(is_paper(sayings, paper), True)
                self.assertIs(is_paper(sayings, told), True)
                self.assertLessEqual(steps_and_depth(told), steps_and_depth(paper))


if __name__ == "__main__":
    unittest.main()
