import inspect
import unittest
from copy import deepcopy
from itertools import combinations, product
from random import Random

import by_words
from by_words import WAYS
from looks import refused, shares_none, spoil
from regionsay import texts
from regionsay.texts import drawing_of, drawing_text, sayings_of, sayings_text
from samples import BAD, GOOD, THIRTY, mixed

# Lines that are no saying.
NO_SAYINGS = [
    "", " ", "  ", "a", "a b", "a  b", "a same", "same b", "never", "a never", "a or b", "or", " a same b", "a same b ",
    "a  same b", "a same  b", "a same or  meets b", "a same b c", "a same", "a b same", "same a b", "a or same b",
    "a same or b", "a or or or b", "a same or or hasrim b", "a same hasrim b", "a same and hasrim b", "a same,hasrim b",
    "a never or same b", "a same or never b", "a never never b", "a never same b", "a  never b", "a never or never b",
    "a meets or apart b", "a same or same b", "a hascore or apart b", "a Same b", "a same OR hasrim b", "a Never b",
    "a inside b", "a same or inside b", "A same b", "a same B", "a1 same b", "a same b.", "abcdefghi same b",
    "a same abcdefghi", "a same a", "a never a", "same same same", "never never never", "or never or", "a+b same c",
    "a\tsame b", "a same b\r", "a all b", "a apart or meets b or", "~ same b", "a same ~", " same b", "a same ",
    "a " + " or ".join([*WAYS, "apart"]) + " b", "a " + " or ".join(WAYS[::-1]) + " b",
]

# Lines that are no strip.
NO_STRIPS = [
    "", " ", "  ", " a", "a ", "a  b", ". ", " .", ".  .", "..", "a.", ".a", "a+", "+a", "+", "a++b", "b+a", "a+a",
    "a+b+b", "a+c+b", "a+.", ".+a", ".+.", "A", "a+B", "a1", "abcdefghi", "a+abcdefghi", "a b+a", "a b A", "a,b",
    "a b .a", "a-b", "~", "ab+a", "b+ab", "a b+", "a b  c", "a b ",
]


class TestSayingsText(unittest.TestCase):
    def test_a_line_each(self):
        self.assertEqual(sayings_text([("a", ("inrim",), "b")]), "a inrim b")
        self.assertEqual(sayings_text([("a", ("same", "inrim"), "b")]), "a same or inrim b")
        self.assertEqual(sayings_text([("b", ("meets",), "a"), ("a", ("apart", "hasrim", "hascore"), "cc")]),
                         "b meets a\na apart or hasrim or hascore cc")

    def test_no_sayings(self):
        self.assertEqual(sayings_text([]), "")

    def test_none_and_all(self):
        self.assertEqual(sayings_text([("a", (), "b")]), "a never b")
        self.assertEqual(sayings_text([("a", WAYS, "b")]),
                         "a apart or meets or over or same or inrim or incore or hasrim or hascore b")

    def test_bad_sayings(self):
        for sayings, at, why in BAD:
            self.assertEqual(refused(lambda: sayings_text(sayings)), ("BadSaying", at, why), sayings)

    def test_read_again_they_are_the_same(self):
        for sayings in GOOD + [mixed(seed) for seed in range(100)]:
            before = deepcopy(sayings)
            text = sayings_text(sayings)
            self.assertEqual(sayings, before)
            self.assertEqual(sayings_of(text), sayings)
            self.assertEqual(sayings_text(sayings), text)


class TestSayingsOf(unittest.TestCase):
    def test_lines(self):
        self.assertEqual(sayings_of("a same or inrim b"), [("a", ("same", "inrim"), "b")])
        self.assertEqual(sayings_of("a never b\nb over a\na never b"),
                         [("a", (), "b"), ("b", ("over",), "a"), ("a", (), "b")])

    def test_the_empty_text(self):
        self.assertEqual(sayings_of(""), [])

    def test_every_choice(self):
        for size in range(1, 9):
            for choice in combinations(WAYS, size):
                self.assertEqual(sayings_of("a " + " or ".join(choice) + " b"), [("a", choice, "b")])
                if size > 1:
                    row = "a " + " or ".join(choice[::-1]) + " b"
                    self.assertEqual(refused(lambda: sayings_of(row)), ("BadText", 0))

    def test_names_that_are_words_of_the_lines_too(self):
        self.assertEqual(sayings_of("or same never\nnever never or"),
                         [("or", ("same",), "never"), ("never", (), "or")])
        self.assertEqual(sayings_of("apart apart or same same"), [("apart", ("apart", "same"), "same")])
        for one, other in product(["or", "never", "same", "apart"], repeat=2):
            if one != other:
                for sayings in ([(one, (), other)], [(one, ("same",), other)], [(one, ("apart", "same"), other)]):
                    self.assertEqual(sayings_of(sayings_text(sayings)), sayings)

    def test_each_line_that_is_no_saying(self):
        for line in NO_SAYINGS:
            if line:
                self.assertEqual(refused(lambda: sayings_of(line)), ("BadText", 0), line)
            for at in range(4):
                lines = ["a same b", "b never a", "cc over d"]
                lines.insert(at, line)
                self.assertEqual(refused(lambda: sayings_of("\n".join(lines))), ("BadText", at), lines)

    def test_the_first_of_several_such_lines(self):
        self.assertEqual(refused(lambda: sayings_of("a same b\na same\nA same b\na same b")), ("BadText", 1))
        self.assertEqual(refused(lambda: sayings_of("a same b\n\n\na b")), ("BadText", 1))

    def test_line_ends(self):
        # An end of a line stands between lines, so behind the last one there is an empty line, which is no saying.
        self.assertEqual(refused(lambda: sayings_of("\n")), ("BadText", 0))
        self.assertEqual(refused(lambda: sayings_of("\na same b")), ("BadText", 0))
        self.assertEqual(refused(lambda: sayings_of("a same b\n")), ("BadText", 1))
        self.assertEqual(refused(lambda: sayings_of("a same b\nb same a\n\n")), ("BadText", 2))

    def test_how_many_there_are_is_not_looked_at(self):
        sayings = THIRTY + [("g", ("over",), "h"), ("i", (), "j")] * 10
        text = "\n".join([sayings_text(sayings[:30]), *[sayings_text([saying]) for saying in sayings[30:]]])
        self.assertEqual(sayings_of(text), sayings)
        self.assertEqual(len(sayings_of("a same b\n" * 99 + "a same b")), 100)
        self.assertEqual(refused(lambda: sayings_of("a same b\n" * 99 + "a same a")), ("BadText", 99))

    def test_made_at_random(self):
        words = ["a", "b", "same", "or", "never", "meets", "apart", "", "x1", "A"]
        random = Random(18)
        read = 0
        for _ in range(4000):
            line = " ".join(random.choices(words[:7] if random.randrange(3) else words, k=random.randrange(1, 7)))
            told = refused(lambda: sayings_of(line or " "))
            if told is None:
                read += 1
                self.assertEqual(sayings_text(sayings_of(line)), line)
            else:
                self.assertEqual(told, ("BadText", 0))
        self.assertGreater(read, 50)


class TestDrawingText(unittest.TestCase):
    def test_lines(self):
        self.assertEqual(drawing_text([[("a",)]]), "a")
        self.assertEqual(drawing_text([[("a", "b"), (), ("b",)], [()], [("abcdefgh", "x", "y")]]),
                         "a+b . b\n.\nabcdefgh+x+y")
        self.assertEqual(drawing_text([[(), ()], [(), ("a",)]]), ". .\n. a")

    def test_no_strips(self):
        self.assertEqual(drawing_text([]), "")

    def test_read_again_they_are_the_same(self):
        random = Random(19)
        plots = by_words.kinds(["a", "abcdefgh", "b", "cc", "d", "or"])
        for many in range(41):
            drawing = [random.choices(plots, k=random.randrange(1, 9)) for _ in range(many)]
            before = deepcopy(drawing)
            text = drawing_text(drawing)
            self.assertEqual(drawing, before)
            self.assertEqual(drawing_of(text), drawing)
            self.assertEqual(drawing_text(drawing), text)


class TestDrawingOf(unittest.TestCase):
    def test_lines(self):
        self.assertEqual(drawing_of("a+b . b\n.\nabcdefgh+x+y"),
                         [[("a", "b"), (), ("b",)], [()], [("abcdefgh", "x", "y")]])
        self.assertEqual(drawing_of("a+aa+ab+b"), [[("a", "aa", "ab", "b")]])

    def test_the_empty_text(self):
        self.assertEqual(drawing_of(""), [])

    def test_each_line_that_is_no_strip(self):
        for line in NO_STRIPS:
            if line:
                self.assertEqual(refused(lambda: drawing_of(line)), ("BadText", 0), line)
            for at in range(4):
                lines = ["a . b", ".", "a+b"]
                lines.insert(at, line)
                self.assertEqual(refused(lambda: drawing_of("\n".join(lines))), ("BadText", at), lines)

    def test_the_first_of_several_such_lines(self):
        self.assertEqual(refused(lambda: drawing_of("a\nb+a\nA\na")), ("BadText", 1))
        self.assertEqual(refused(lambda: drawing_of("a\n\n\nb+a")), ("BadText", 1))

    def test_line_ends(self):
        self.assertEqual(refused(lambda: drawing_of("\n")), ("BadText", 0))
        self.assertEqual(refused(lambda: drawing_of("\na")), ("BadText", 0))
        self.assertEqual(refused(lambda: drawing_of("a\n")), ("BadText", 1))
        self.assertEqual(refused(lambda: drawing_of(".\na b\n\n")), ("BadText", 2))

    def test_how_many_there_are_is_not_looked_at(self):
        names = [first + second for first in "ab" for second in "abcdefgh"]
        drawing = [[tuple(names), (), *[(name,) for name in names]]] * 60
        self.assertEqual(drawing_of(drawing_text(drawing)), drawing)

    def test_every_two_signs(self):
        for code in range(32, 127):
            for sign in (chr(code), chr(code) + "a", "a" + chr(code), "a " + chr(code), "a+" + chr(code)):
                told = refused(lambda: drawing_of(sign))
                if told is None:
                    self.assertEqual(drawing_text(drawing_of(sign)), sign)
                    self.assertTrue("a" <= chr(code) <= "z" or chr(code) == "." and sign in (".", "a ."))
                else:
                    self.assertEqual(told, ("BadText", 0))


class TestWhatIsToldMayBeChanged(unittest.TestCase):
    def test_asked_again_it_is_the_same(self):
        for question, text in ((sayings_of, sayings_text(THIRTY)), (drawing_of, "a+b .\n.\na+b .\n."),
                               (sayings_of, ""), (drawing_of, "")):
            first = question(text)
            right = deepcopy(first)
            self.assertTrue(shares_none(first))
            spoil(first)
            self.assertEqual(question(text), right)


class TestInterface(unittest.TestCase):
    def test_names_and_arguments(self):
        for name, arguments in {"sayings_text": ["sayings"], "sayings_of": ["text"], "drawing_text": ["drawing"],
                                "drawing_of": ["text"]}.items():
            told = getattr(texts, name)
            self.assertEqual(told.__module__, "regionsay.texts")
            self.assertEqual(list(inspect.signature(told).parameters), arguments)

    def test_kinds_of_values(self):
        (one, choice, other), = sayings_of("a same b")
        self.assertEqual((one.__class__, choice.__class__, other.__class__), (str, tuple, str))
        strip, = drawing_of("a+b .")
        self.assertEqual((strip.__class__, strip[0].__class__, strip[1].__class__), (list, tuple, tuple))


if __name__ == "__main__":
    unittest.main()
