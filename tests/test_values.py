"""Values: point 77."""

import unittest

from leastneeds.kinds import con, to, var
from leastneeds.program import Program
from leastneeds.values import is_of, is_value, parts_of

from samples import TEXT, TRUTH, WHOLE, listed, pair

PROGRAM = Program.read(
    "data list 'a = nil | cons 'a ( list 'a )\n"
    "data pair 'a 'b = two 'a 'b\n"
    "data act 'a = act ( 'a -> 'a ) | idle\n"
    "data odd 'a = odd 'a ( even 'a )\n"
    "data even 'a = none | even ( list 'a ) ( odd 'a )\n"
    "data nest 'a = stop | deep 'a ( nest ( pair 'a 'a ) )\n"
    "data tree 'f 'a = tree 'a"
)
ONE = ("whole", 1)
NO = ("made", "no", ())
NIL = ("made", "nil", ())
FUNCTION = ("function",)


def made(name, *values):
    return ("made", name, values)


def row(*values):
    found = NIL
    for value in reversed(values):
        found = made("cons", value, found)
    return found


def deep(many):
    """A value that is so deep."""
    found = ONE
    for _ in range(many - 1):
        found = made("box", found)
    return found


class TestValues(unittest.TestCase):
    def test_right(self):
        for value in (
            ONE,
            ("whole", 0),
            ("whole", -(10**30)),
            ("whole", 10**30),
            ("text", ""),
            ("text", "~ \\\""),
            ("text", "a" * 200),
            FUNCTION,
            NO,
            made("anything", ONE, NO, FUNCTION, ("text", "a"), ONE, ONE),
            made("cons", made("cons", NO)),
        ):
            self.assertIs(is_value(value), True, value)

    def test_wrong(self):
        for value in (
            ("whole", -(10**30) - 1),
            ("whole", 10**30 + 1),
            ("whole", True),
            ("whole", "1"),
            ("whole", None),
            ("whole",),
            ("whole", 1, 1),
            ["whole", 1],
            ("text", "a" * 201),
            ("text", "100%"),
            ("text", "a\n"),
            ("text", "\x7f"),
            ("text", 1),
            ("text",),
            ("text", "a", "b"),
            ("function", ()),
            ("function",) * 2,
            ["function"],
            "function",
            ("made", "no"),
            ("made", "no", []),
            ("made", "no", (), ()),
            ("made", "No", ()),
            ("made", "", ()),
            ("made", "data", ()),
            ("made", "toolongname", ()),
            ("made", 1, ()),
            ("made", ["no"], ()),
            ("made", "no", ONE),
            ("made", "no", (1,)),
            ("made", "no", (NO, ("whole", False))),
            made("two", ONE, [ONE]),
            ("name", "no"),
            (),
            ((),),
            None,
            True,
            7,
            "whole",
            {},
            PROGRAM,
            WHOLE,
        ):
            self.assertIs(is_value(value), False, value)

    def test_bounds(self):
        self.assertTrue(is_value(made("row", *[ONE] * 999)))
        self.assertFalse(is_value(made("row", *[ONE] * 1000)))
        self.assertTrue(is_value(made("row", made("row", *[ONE] * 498), made("row", *[NO] * 499))))
        self.assertFalse(is_value(made("row", made("row", *[ONE] * 499), made("row", *[NO] * 499))))
        self.assertTrue(is_value(deep(100)))
        self.assertFalse(is_value(deep(101)))
        self.assertFalse(is_value(deep(250)))
        # Far more parts than can be counted one by one.
        value = ONE
        for _ in range(90):
            value = made("two", value, value)
        self.assertFalse(is_value(value))

    def test_parts(self):
        self.assertEqual(parts_of(ONE), 1)
        self.assertEqual(parts_of(("text", "abc")), 1)
        self.assertEqual(parts_of(FUNCTION), 1)
        self.assertEqual(parts_of(NO), 1)
        self.assertEqual(parts_of(row(ONE, ONE)), 5)
        self.assertEqual(parts_of(made("two", NO, row(FUNCTION))), 5)
        self.assertEqual(parts_of(made("row", *[ONE] * 999)), 1000)
        self.assertEqual(parts_of(made("row", *[ONE] * 1000)), 1001)
        self.assertEqual(parts_of(deep(100)), 100)


class TestKinds(unittest.TestCase):
    def of(self, value, *kinds):
        """A value is of these kinds, and of no other one of those in all."""
        every = (WHOLE, TEXT, TRUTH, to(WHOLE, WHOLE), to(TEXT, TRUTH, WHOLE), listed(WHOLE), listed(TEXT))
        every += (listed(listed(WHOLE)), pair(WHOLE, TRUTH), con("act", WHOLE), con("nest", WHOLE))
        for kind in every:
            self.assertIs(is_of(PROGRAM, value, kind), kind in kinds, (value, kind))

    def test_each_form(self):
        self.of(ONE, WHOLE)
        self.of(("text", "a"), TEXT)
        self.of(FUNCTION, to(WHOLE, WHOLE), to(TEXT, TRUTH, WHOLE))
        self.of(NO, TRUTH)
        self.of(NIL, listed(WHOLE), listed(TEXT), listed(listed(WHOLE)))
        self.of(row(ONE, ("whole", 2)), listed(WHOLE))
        self.of(row(ONE, ("text", "2")))
        self.of(row(row(ONE), NIL), listed(listed(WHOLE)))
        self.of(made("two", ONE, NO), pair(WHOLE, TRUTH))
        self.of(made("two", NO, ONE))
        self.of(made("act", FUNCTION), con("act", WHOLE))
        self.of(made("act", ONE))

    def test_data_in_rings(self):
        even = made("even", row(ONE), made("odd", ONE, made("none")))
        self.assertTrue(is_of(PROGRAM, even, con("even", WHOLE)))
        self.assertTrue(is_of(PROGRAM, made("odd", ONE, even), con("odd", WHOLE)))
        self.assertFalse(is_of(PROGRAM, even, con("odd", WHOLE)))
        self.assertFalse(is_of(PROGRAM, made("odd", NO, even), con("odd", WHOLE)))

    def test_data_at_other_kinds(self):
        two = made("two", made("two", ONE, ONE), made("two", ONE, ONE))
        value = made("deep", ONE, made("deep", made("two", ONE, ONE), made("deep", two, made("stop"))))
        self.of(value, con("nest", WHOLE))
        wrong = made("deep", ONE, made("deep", ONE, made("stop")))
        self.of(wrong)

    def test_numbers_of_fields(self):
        self.of(made("cons", ONE))
        self.of(made("cons", ONE, NIL, NIL))
        self.of(made("no", ONE))
        self.of(made("nil", NIL))
        self.of(made("zzz"))
        self.of(("made", "plus", ()))

    def test_kinds_that_are_none(self):
        for kind in (con("list"), con("zzz"), con("to"), con("to", WHOLE), con("list", WHOLE, WHOLE), con("truth", WHOLE)):
            for value in (ONE, NIL, FUNCTION, NO, row(ONE)):
                self.assertFalse(is_of(PROGRAM, value, kind), (value, kind))
        self.assertFalse(is_of(PROGRAM, ONE, var("a")))

    def test_any_value(self):
        for value in (None, True, 1, "a", (), ("whole", True), ("made",), [ONE], {}, PROGRAM, ("made", "no", [])):
            self.of(value)
        self.assertFalse(is_of(PROGRAM, row(*[ONE] * 500), listed(WHOLE)))
        self.assertTrue(is_of(PROGRAM, row(*[ONE] * 98), listed(WHOLE)))


if __name__ == "__main__":
    unittest.main()
