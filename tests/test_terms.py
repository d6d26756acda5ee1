"""[20]: terms and their places."""

import unittest

from leastneeds.errors import OutOfTerm
from leastneeds.schemes import Scheme
from leastneeds.terms import free_names, is_term, part_at, places

X, Y, Z = ("name", "x"), ("name", "y"), ("name", "z")
ONE = ("whole", 1)
LET = ("let", (("x", Y), ("y", X)), ("use", X, Z))
MATCH = ("match", X, (("nil", (), Y), ("cons", ("h", "t"), ("use", ("name", "h"), ("name", "t")))))


class TestIsTerm(unittest.TestCase):
    def test_terms(self):
        for term in (
            X, ONE, ("whole", 10**30), ("whole", -(10**30)), ("text", ""), ("text", "~ !\"'" + "a" * 195), ("use", X, Y),
            ("given", "x", X), LET, MATCH, ("hole",), ("use", ("hole",), ("hole",)), ("let", (("x", X),), X),
            ("match", X, (("nil", (), X),)), ("match", X, (("nil", (), X), ("nil", ("a",), Y))),
        ):
            self.assertIs(is_term(term), True, term)

    def test_others(self):
        for value in (
            None, True, 1, "x", "name", (), [], {}, Scheme(("var", "a")), ("name",), ("name", "x", "y"), ["name", "x"],
            ("name", "in"), ("name", 1), ("name", ["x"]), ("whole",), ("whole", True), ("whole", False),
            ("whole", 10**30 + 1), ("whole", -(10**30) - 1), ("whole", "1"), ("whole", 1, 1), ("text", "a" * 201),
            ("text", "a%"), ("text", "\n"), ("text", "\x7f"), ("text", "\u00e9"), ("text", 1), ("text", None), ("text",),
            ("use", X), ("use", X, Y, Z), ("use", X, 1), ("use", [X], Y), ("given", "x"), ("given", "if", X),
            ("given", X, X), ("given", "x", X, X), ("given", "x", ["name", "x"]), ("let", (), X), ("let", [("x", X)], X),
            ("let", (["x", X],), X), ("let", (("x", X), ("x", Y)), X), ("let", (("x", X, Y),), X), ("let", (("x",),), X),
            ("let", (("x", 1),), X), ("let", (("x", X),), 1), ("let", (("let", X),), X), ("let", (("x", X),)),
            ("let", "x", X), ("match", X, ()), ("match", X), ("match", X, (("nil", (), X),), X),
            ("match", X, [("nil", (), X)]), ("match", X, (["nil", (), X],)), ("match", X, (("nil", [], X),)),
            ("match", X, (("nil", ("a", "a"), X),)), ("match", X, (("nil", ("a", "as"), X),)), ("match", X, (("nil", X),)),
            ("match", X, (("", (), X),)), ("match", 1, (("nil", (), X),)), ("match", X, (("nil", (), 1),)),
            ("match", X, (("nil", None, X),)), ("match", X, (("nil", "", X),)), ("hole", 1), (("hole",),), ("hole"),
            ("other", X), (["name"], "x"), (None,), (True, "x"), ("name", None), ("match", X, ((["nil"], (), X),)),
        ):
            self.assertIs(is_term(value), False, value)

    def test_deep_values(self):
        term = X
        value = ("use", X)
        for _ in range(248):
            term = ("given", "x", term)
            value = ("use", X, value)
        self.assertTrue(is_term(term))
        self.assertFalse(is_term(value))


class TestPlaces(unittest.TestCase):
    def test_reading_order(self):
        self.assertEqual(list(places(X)), [()])
        self.assertEqual(list(places(("use", X, ("given", "x", Y)))), [(), (0,), (1,), (1, 0)])
        self.assertEqual(list(places(LET)), [(), (0,), (1,), (2,), (2, 0), (2, 1)])
        self.assertEqual(list(places(MATCH)), [(), (0,), (1,), (2,), (2, 0), (2, 1)])
        self.assertEqual(list(places(term=("use", LET, X))), [(), (0,)] + [(0, k) for k in range(3)] + [(0, 2, 0), (0, 2, 1), (1,)])

    def test_generator(self):
        found = places(("use", X, Y))
        self.assertEqual(next(found), ())
        self.assertEqual(next(found), (0,))
        self.assertEqual(list(found), [(1,)])

    def test_part_at(self):
        self.assertEqual(part_at(LET, ()), LET)
        self.assertEqual(part_at(LET, (0,)), Y)
        self.assertEqual(part_at(LET, (2, 1)), Z)
        self.assertEqual(part_at(MATCH, (0,)), X)
        self.assertEqual(part_at(MATCH, (2, 1)), ("name", "t"))
        self.assertEqual(part_at(term=("given", "x", Y), place=(0,)), Y)
        for term in (X, ONE, LET, MATCH, ("use", LET, MATCH), ("given", "x", ("hole",))):
            for place in places(term):
                self.assertTrue(is_term(part_at(term, place)))

    def test_out_of_term(self):
        for value in (
            None, 0, True, "", "0", [], [0], (3,), (0, 0), (-1,), (True,), (False,), ("0",), (None,), ((0,),), (2, 2), {},
            (2, -1), (0, None), ([],), 10**99, (10**99,), Scheme(("var", "a")),
        ):
            with self.assertRaises(OutOfTerm) as caught:
                part_at(LET, value)
            self.assertIs(caught.exception.place, value)


class TestFreeNames(unittest.TestCase):
    def test_free_names(self):
        self.assertEqual(free_names(ONE), ())
        self.assertEqual(free_names(X), ("x",))
        self.assertEqual(free_names(("use", Z, ("use", Y, Z))), ("y", "z"))
        self.assertEqual(free_names(("given", "x", ("use", X, Y))), ("y",))
        self.assertEqual(free_names(("use", ("given", "x", X), X)), ("x",))
        self.assertEqual(free_names(LET), ("z",))
        self.assertEqual(free_names(("let", (("x", Z),), X)), ("z",))
        self.assertEqual(free_names(("use", LET, Y)), ("y", "z"))
        self.assertEqual(free_names(MATCH), ("x", "y"))
        self.assertEqual(free_names(("match", ("name", "h"), (("cons", ("h",), ("name", "h")),))), ("h",))
        self.assertEqual(free_names(("match", X, (("a", ("y",), Y), ("b", (), Y)))), ("x", "y"))
        self.assertEqual(free_names(("let", (("f", ("given", "x", ("use", X, Y))),), ("name", "f"))), ("y",))
        self.assertEqual(free_names(term=("hole",)), ())
        self.assertEqual(free_names(("text", "x")), ())


if __name__ == "__main__":
    unittest.main()
