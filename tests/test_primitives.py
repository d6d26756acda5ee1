"""Primitives: points 75 and 76."""

import unittest

from leastneeds.errors import InvalidValue, NoPrimitive
from leastneeds.kinds import con, text_of
from leastneeds.primitives import Primitives
from leastneeds.program import Program

BOUND = 10**30

ODD_VALUES = (None, True, 0, -1, 10**99, "", "Plus", "plus ", (), ("plus",), [], ["plus"], {}, {"plus": 1}, con("whole"))


def whole(number):
    return ("whole", number)


def text(content):
    return ("text", content)


def truth(holds):
    return ("made", "yes" if holds else "no", ())


def deep_value():
    value = ()
    for _ in range(240):
        value = (value, [value])[0:1]
    return value


class TestPrimitives(unittest.TestCase):
    def test_names(self):
        names = "plus minus times equal upto join size eqtext uptotext spell"
        self.assertEqual(Primitives.NAMES, tuple(names.split()))

    def test_schemes(self):
        told = {
            "plus": "whole -> whole -> whole",
            "minus": "whole -> whole -> whole",
            "times": "whole -> whole -> whole",
            "equal": "whole -> whole -> truth",
            "upto": "whole -> whole -> truth",
            "join": "text -> text -> text",
            "size": "text -> whole",
            "eqtext": "text -> text -> truth",
            "uptotext": "text -> text -> truth",
            "spell": "whole -> text",
        }
        for name in Primitives.NAMES:
            scheme = Primitives.told_scheme(name)
            self.assertEqual(text_of(scheme.kind), told[name])
            self.assertEqual(scheme.needs, ())

    def test_counting(self):
        self.assertEqual(Primitives.done("plus", whole(2), whole(-5)), whole(-3))
        self.assertEqual(Primitives.done("minus", whole(2), whole(-5)), whole(7))
        self.assertEqual(Primitives.done("times", whole(-3), whole(-5)), whole(15))
        self.assertEqual(Primitives.done("times", whole(0), whole(-5)), whole(0))

    def test_bounds(self):
        top, low = whole(BOUND), whole(-BOUND)
        self.assertEqual(Primitives.done("plus", top, whole(0)), top)
        self.assertEqual(Primitives.done("plus", whole(BOUND - 1), whole(1)), top)
        self.assertEqual(Primitives.done("plus", top, whole(1)), top)
        self.assertEqual(Primitives.done("plus", top, low), whole(0))
        self.assertEqual(Primitives.done("plus", low, whole(-1)), low)
        self.assertEqual(Primitives.done("minus", low, whole(1)), low)
        self.assertEqual(Primitives.done("minus", whole(1 - BOUND), whole(1)), low)
        self.assertEqual(Primitives.done("minus", top, low), top)
        self.assertEqual(Primitives.done("times", top, top), top)
        self.assertEqual(Primitives.done("times", low, top), low)
        self.assertEqual(Primitives.done("times", low, low), top)
        self.assertEqual(Primitives.done("times", whole(10**15), whole(10**15)), top)
        self.assertEqual(Primitives.done("times", whole(10**15 + 1), whole(1 - 10**15)), whole(1 - BOUND))

    def test_comparing_wholes(self):
        for one, other in ((1, 1), (1, 2), (2, 1), (-1, 1), (BOUND, BOUND), (BOUND, -BOUND), (9, 10)):
            self.assertEqual(Primitives.done("equal", whole(one), whole(other)), truth(one == other))
            self.assertEqual(Primitives.done("upto", whole(one), whole(other)), truth(one <= other))

    def test_texts(self):
        self.assertEqual(Primitives.done("join", text(""), text("")), text(""))
        self.assertEqual(Primitives.done("join", text("a b"), text(" c")), text("a b c"))
        self.assertEqual(Primitives.done("join", text("a" * 199), text("bc")), text("a" * 199 + "b"))
        self.assertEqual(Primitives.done("join", text("a" * 200), text("b" * 200)), text("a" * 200))
        self.assertEqual(Primitives.done("join", text(""), text("b" * 200)), text("b" * 200))
        for size in (0, 1, 200):
            self.assertEqual(Primitives.done("size", text("~" * size)), whole(size))

    def test_comparing_texts(self):
        for one, other in (("", ""), ("", "a"), ("a", ""), ("Z", "a"), ("10", "9"), ("ab", "b"), ("a", "a"), (" ", "")):
            self.assertEqual(Primitives.done("eqtext", text(one), text(other)), truth(one == other))
            self.assertEqual(Primitives.done("uptotext", text(one), text(other)), truth(one <= other))

    def test_spelling(self):
        for number in (0, 7, -7, 100, BOUND, -BOUND):
            self.assertEqual(Primitives.done("spell", whole(number)), text(str(number)))

    def test_any_value_as_a_name(self):
        for value in ODD_VALUES + (deep_value(), Program()):
            with self.assertRaises(NoPrimitive) as caught:
                Primitives.told_scheme(value)
            self.assertIs(caught.exception.word, value)
            with self.assertRaises(NoPrimitive) as caught:
                Primitives.done(value, None, None, None)
            self.assertIs(caught.exception.word, value)

    def refused(self, index, *args):
        with self.assertRaises(InvalidValue) as caught:
            Primitives.done(*args)
        self.assertEqual(caught.exception.index, index)

    def test_numbers_of_arguments(self):
        one, word = whole(1), text("a")
        self.refused(0, "plus")
        self.refused(1, "plus", one)
        self.refused(2, "plus", one, one, one)
        self.refused(2, "plus", one, one, None, one)
        self.refused(0, "spell")
        self.refused(1, "spell", one, one)
        self.refused(1, "join", word)
        self.refused(1, "size", word, 7)

    def test_wrong_arguments(self):
        one, word = whole(1), text("a")
        self.refused(0, "plus", word, word)
        self.refused(1, "plus", one, word)
        # The first wrong argument counts ahead of too few and too many.
        self.refused(0, "plus", word)
        self.refused(1, "plus", one, word, one)
        self.refused(0, "join", one, word)
        self.refused(0, "spell", word)
        self.refused(0, "size", one)
        wrong = [("whole", True), ("whole", BOUND + 1), ("whole", -BOUND - 1), ("whole", "1"), ("whole", None)]
        wrong += [("whole",), ("whole", 1, 1), ["whole", 1], ("function",), ("made", "yes", ()), 1]
        for value in wrong + list(ODD_VALUES) + [deep_value()]:
            self.refused(0, "plus", value, one)
            self.refused(1, "upto", one, value)
        wrong = [("text", "a" * 201), ("text", "%"), ("text", "\n"), ("text", "\x7f"), ("text", "\u00e9"), ("text", 1)]
        for value in wrong + [("text",), ["text", "a"], "a", one] + list(ODD_VALUES):
            self.refused(0, "eqtext", value, word)
            self.refused(1, "join", word, value)


if __name__ == "__main__":
    unittest.main()
