import inspect
import unittest
from copy import deepcopy
from itertools import product
from random import Random

import by_words
from by_words import WAYS, in_order
from looks import keeps, names_of, refused, shares_none, spoil
from regionsay.books import Book
from regionsay.errors import BadSaying, NoDrawing, NoLand, NoSaying
from regionsay.papers import is_paper
from regionsay.search import may, settled
from regionsay.threes import turned
from samples import BAD, GOOD, HARD, NEEDS_CASES, mixed

RING = [("a", ("inrim",), "b"), ("b", ("inrim",), "c"), ("c", ("inrim",), "a")]
FIVE = [("a", ("over",), "b"), ("c", WAYS, "d"), ("e", ("meets",), "a")]


def told(book):
    """All that a book tells of itself."""
    sayings = [saying for _, saying in book.standing()]
    asked = [book.ask(one, other) for one, other in product(names_of(sayings)[:3], repeat=2)]
    return deepcopy((book.standing(), book.drawing(), asked))


def book_of(sayings):
    book = Book()
    for saying in sayings:
        book.say(saying)
    return book


class Looks(unittest.TestCase):
    def look_at(self, book, standing):
        """Looks whether just these stand in a book, and whether its drawing keeps them."""
        self.assertEqual(book.standing(), standing)
        self.assertTrue(keeps(book.drawing(), [saying for _, saying in standing]))


class TestSay(Looks):
    def test_at_first_nothing_stands(self):
        book = Book()
        self.assertEqual(book.standing(), [])
        self.assertEqual(book.drawing(), [])

    def test_numbers_in_turn(self):
        book, standing = Book(), []
        for number in range(20):
            saying = ("a", WAYS[:3 + number % 5], "bcd"[number % 3])
            self.assertEqual(book.say(saying), number)
            standing.append((number, saying))
            self.look_at(book, standing)

    def test_numbers_are_given_once_also_behind_unsay(self):
        book = book_of(FIVE)
        book.unsay(2)
        self.assertEqual(book.say(FIVE[2]), 3)
        book.unsay(0)
        book.unsay(3)
        book.unsay(1)
        self.assertEqual(book.say(FIVE[0]), 4)
        self.look_at(book, [(4, FIVE[0])])

    def test_numbers_of_refused_ones_are_not_given(self):
        book = book_of(RING[:2])
        for saying in (RING[2], ("A", WAYS, "b"), ("a", WAYS, "a"), ("a", ("x",), "b")):
            self.assertIn(refused(lambda: book.say(saying))[0], ("NoDrawing", "BadSaying"))
        self.assertEqual(book.say(("a", WAYS, "b")), 2)

    def test_said_twice_it_stands_twice(self):
        book = book_of([FIVE[0], FIVE[0]])
        self.look_at(book, [(0, FIVE[0]), (1, FIVE[0])])
        book.unsay(0)
        self.look_at(book, [(1, FIVE[0])])

    def test_each_bad_saying(self):
        for sayings, at, why in BAD:
            book = Book()
            if at < 20 and settled(sayings[:at])[0] == "drawn":
                for saying in sayings[:at]:
                    book.say(saying)
                before = told(book)
                self.assertEqual(refused(lambda: book.say(sayings[at])), ("BadSaying", at, why), sayings)
                self.assertEqual(told(book), before)

    def test_the_number_of_a_bad_saying_is_that_in_the_list_of_those_that_stand(self):
        book = book_of(FIVE)
        book.unsay(1)
        self.assertEqual(refused(lambda: book.say(("a", WAYS, "a"))), ("BadSaying", 2, "self"))
        book = book_of(FIVE)
        self.assertEqual(refused(lambda: book.say(("f", WAYS, "g"))), ("BadSaying", 3, "many"))
        self.assertEqual(refused(lambda: book.say(("f", ("x",), "g"))), ("BadSaying", 3, "ways"))
        self.assertEqual(book.say(("f", WAYS, "a")), 3)

    def test_a_land_that_stands_no_more_makes_room(self):
        book = book_of([("a", WAYS, "b"), ("c", WAYS, "d"), ("e", WAYS, "f")])
        self.assertEqual(refused(lambda: book.say(("a", WAYS, "g"))), ("BadSaying", 3, "many"))
        book.unsay(2)
        self.assertEqual(book.say(("a", WAYS, "g")), 3)

    def test_twenty_stand_and_one_more(self):
        book = book_of([("a", WAYS, "b")] * 20)
        before = told(book)
        # Twenty go ahead of all else that is wrong with a saying.
        for saying in (("a", WAYS, "b"), ("A", ("x",), "A"), ("a", (), "b"), ("a", WAYS, "a")):
            self.assertEqual(refused(lambda: book.say(saying)), ("BadSaying", 20, "many"))
            self.assertEqual(told(book), before)
        book.unsay(7)
        self.assertEqual(refused(lambda: book.say(("a", WAYS, "a"))), ("BadSaying", 19, "self"))
        self.assertEqual(book.say(("b", WAYS, "c")), 20)
        self.assertEqual(refused(lambda: book.say(("b", WAYS, "c"))), ("BadSaying", 20, "many"))

    def test_what_no_drawing_keeps(self):
        for sayings in (RING, NEEDS_CASES, [("a", WAYS, "b"), ("c", (), "d")], HARD, *GOOD[:8]):
            book, stood = Book(), []
            for saying in sayings[:20]:
                before = told(book)
                try:
                    book.say(saying)
                except NoDrawing as refusal:
                    self.assertEqual(settled([*stood, saying])[0], "none")
                    self.assertIs(is_paper([*stood, saying], refusal.paper), True)
                    spoil(refusal.paper)
                    self.assertEqual(told(book), before)
                else:
                    stood.append(saying)
            self.assertEqual([saying for _, saying in book.standing()], stood)

    def test_bad_ahead_of_what_no_drawing_keeps(self):
        book = book_of(FIVE)
        self.assertEqual(refused(lambda: book.say(("f", (), "g"))), ("BadSaying", 3, "many"))
        self.assertEqual(refused(lambda: book.say(("f", (), "a")))[0], "NoDrawing")


class TestUnsay(Looks):
    def test_it_takes_back_and_tells_nothing(self):
        book = book_of(FIVE)
        self.assertIsNone(book.unsay(1))
        self.look_at(book, [(0, FIVE[0]), (2, FIVE[2])])
        book.unsay(0)
        self.look_at(book, [(2, FIVE[2])])
        book.unsay(2)
        self.look_at(book, [])
        self.assertEqual(book.drawing(), [])

    def test_no_saying(self):
        book = book_of(FIVE)
        book.unsay(1)
        before = told(book)
        for number in (1, 3, -1, 100):
            self.assertEqual(refused(lambda: book.unsay(number)), ("NoSaying", number))
            self.assertEqual(told(book), before)
        self.assertEqual(refused(lambda: Book().unsay(0)), ("NoSaying", 0))

    def test_what_was_refused_can_be_said_then(self):
        book = book_of(RING[:2])
        self.assertEqual(refused(lambda: book.say(RING[2]))[0], "NoDrawing")
        book.unsay(0)
        self.assertEqual(book.say(RING[2]), 2)
        self.look_at(book, [(1, RING[1]), (2, RING[2])])


class TestDrawing(Looks):
    def test_it_stays_while_it_is_such_a_one(self):
        book = book_of([("a", ("meets", "over", "incore"), "b"), ("b", ("apart", "meets"), "c")])
        kept = book.drawing()
        for one, other in (("a", "b"), ("b", "c"), ("a", "c"), ("c", "a")):
            way = by_words.seen(kept, one, other)
            book.say((one, (way,), other))
            self.assertEqual(book.drawing(), kept)
            book.say((other, in_order({turned(way), "over", "hascore"}), one))
            self.assertEqual(book.drawing(), kept)
        for number in (3, 0, 2, 5):
            book.unsay(number)
            self.assertEqual(book.drawing(), kept)

    def test_behind_a_refusal_it_stays(self):
        book = book_of(RING[:2])
        kept = book.drawing()
        for saying in (RING[2], ("a", ("x",), "b"), ("a", (), "x")):
            self.assertIsNotNone(refused(lambda: book.say(saying)))
            self.assertEqual(book.drawing(), kept)
        self.assertIsNotNone(refused(lambda: book.unsay(9)))
        self.assertEqual(book.drawing(), kept)

    def test_it_goes_where_a_saying_does_not_hold_in_it(self):
        book = book_of([("a", ("meets", "over", "incore"), "b")])
        for _ in range(2):
            shown = by_words.seen(book.drawing(), "a", "b")
            book.say(("a", tuple(way for way in WAYS if way != shown), "b"))
            self.assertNotEqual(by_words.seen(book.drawing(), "a", "b"), shown)
            self.look_at(book, book.standing())

    def test_it_goes_where_lands_come_and_go(self):
        book = book_of([("a", ("over",), "b")])
        book.say(("b", WAYS, "c"))
        self.look_at(book, book.standing())
        book.unsay(0)
        self.look_at(book, [(1, ("b", WAYS, "c"))])

    def test_at_random(self):
        for seed in range(60):
            random = Random(seed)
            book, standing, given = Book(), [], 0
            pool = [saying for part in range(4) for saying in mixed(10 * seed + part)]
            for _ in range(25):
                before = book.drawing()
                if standing and not random.randrange(3):
                    gone = random.choice(standing)
                    book.unsay(gone[0])
                    standing.remove(gone)
                else:
                    saying = random.choice(pool)
                    sayings = [said for _, said in standing] + [saying]
                    if len(standing) < 20 and len(names_of(sayings)) <= 6 and settled(sayings)[0] == "drawn":
                        self.assertEqual(book.say(saying), given)
                        standing.append((given, saying))
                        given += 1
                    else:
                        self.assertIn(refused(lambda: book.say(saying))[0], ("BadSaying", "NoDrawing"))
                self.look_at(book, standing)
                if keeps(before, [said for _, said in standing]):
                    self.assertEqual(book.drawing(), before)


class TestAsk(Looks):
    def test_to_itself(self):
        book = book_of(FIVE)
        for name in "abcde":
            self.assertEqual(book.ask(name, name), ("same",))

    def test_as_it_is_said(self):
        book = book_of([("a", ("meets", "over", "incore"), "b"), ("b", ("apart", "hascore"), "a")])
        self.assertEqual(book.ask("a", "b"), ("incore",))
        self.assertEqual(book.ask("b", "a"), ("hascore",))
        book.unsay(1)
        self.assertEqual(book.ask("b", "a"), ("meets", "over", "hascore"))

    def test_what_is_led_to(self):
        book = book_of([("a", ("inrim",), "b"), ("b", ("meets",), "c")])
        self.assertEqual(book.ask("a", "c"), ("apart", "meets"))
        self.assertEqual(book.ask("c", "a"), ("apart", "meets"))
        book.say(("d", WAYS, "a"))
        self.assertEqual(book.ask("d", "c"), WAYS)

    def test_as_may_tells(self):
        for sayings in GOOD:
            if 0 < len(sayings) <= 20 and settled(sayings)[0] == "drawn":
                book = book_of(sayings)
                for one, other in product(names_of(sayings), repeat=2):
                    if one != other:
                        ways = tuple(way for way, (word, _) in may(sayings, one, other) if word == "drawn")
                        self.assertEqual(book.ask(one, other), ways)

    def test_more_goes_than_by_threes(self):
        # Threes let "a" lie to "c" in two ways, with any five of these sayings.
        for at in range(len(NEEDS_CASES)):
            sayings = NEEDS_CASES[:at] + NEEDS_CASES[at + 1:]
            book = book_of(sayings)
            for way in WAYS:
                word, _ = settled([*sayings, ("a", (way,), "c")])
                self.assertEqual(way in book.ask("a", "c"), word == "drawn")

    def test_no_land(self):
        book = book_of(FIVE)
        for one, other, name in (("x", "a", "x"), ("a", "x", "x"), ("x", "y", "x"), ("y", "x", "y"), ("x", "x", "x"),
                                 ("", "a", ""), ("A", "a", "A")):
            self.assertEqual(refused(lambda: book.ask(one, other)), ("NoLand", name))
        book.unsay(2)
        self.assertEqual(refused(lambda: book.ask("a", "e")), ("NoLand", "e"))
        self.assertEqual(refused(lambda: book.ask("e", "e")), ("NoLand", "e"))
        self.assertEqual(refused(lambda: Book().ask("a", "b")), ("NoLand", "a"))

    def test_refusals_change_nothing(self):
        book = book_of(FIVE)
        before = told(book)
        self.assertIsNotNone(refused(lambda: book.ask("a", "x")))
        self.assertEqual(told(book), before)


class TestWhatIsToldMayBeChanged(Looks):
    def test_asked_again_it_is_the_same(self):
        book = book_of(FIVE)
        before = told(book)
        for _ in range(2):
            standing, drawing = book.standing(), book.drawing()
            self.assertTrue(shares_none(standing, drawing, book.standing(), book.drawing()))
            spoil(standing)
            spoil(drawing)
            self.assertEqual(told(book), before)

    def test_two_books_beside_each_other(self):
        first, second = book_of(FIVE), book_of(RING[:2])
        before = told(first)
        second.say(("x", ("over",), "a"))
        second.unsay(0)
        self.assertEqual(told(first), before)
        self.assertEqual(Book().standing(), [])
        self.assertEqual(Book().say(FIVE[0]), 0)
        self.assertEqual(second.standing(), [(1, RING[1]), (2, ("x", ("over",), "a"))])


class TestInterface(unittest.TestCase):
    def test_names_and_arguments(self):
        self.assertEqual(Book.__module__, "regionsay.books")
        self.assertEqual(list(inspect.signature(Book).parameters), [])
        for name, arguments in {"say": ["saying"], "unsay": ["number"], "standing": [], "drawing": [],
                                "ask": ["one", "other"]}.items():
            self.assertEqual(list(inspect.signature(vars(Book)[name]).parameters), ["self", *arguments])

    def test_kinds_of_values(self):
        book = Book()
        self.assertIs(book.say(saying=FIVE[0]).__class__, int)
        self.assertIs(book.standing().__class__, list)
        self.assertIs(book.standing()[0].__class__, tuple)
        self.assertIs(book.ask(one="a", other="b").__class__, tuple)

    def test_refusals_are_of_their_classes(self):
        book = book_of(RING[:2])
        for kind, asked in ((BadSaying, lambda: book.say(("a", WAYS, "a"))), (NoDrawing, lambda: book.say(RING[2])),
                            (NoSaying, lambda: book.unsay(5)), (NoLand, lambda: book.ask("a", "x"))):
            with self.assertRaises(kind):
                asked()


if __name__ == "__main__":
    unittest.main()
