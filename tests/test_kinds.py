"""[2], [10], [11]: names and kinds."""

import unittest

from leastneeds.kinds import con, is_kind, put, size_of, text_of, to, var, variables_of
from leastneeds.names import first_names, is_integer, is_name
from leastneeds.schemes import Scheme

A, B, C = var("a"), var("b"), var("c")
WHOLE = con("whole")


def nested(depth, make, value):
    for _ in range(depth):
        value = make(value)
    return value


class TestNames(unittest.TestCase):
    def test_names(self):
        for word in ("a", "abcdefgh", "define" + "d", "iff", "whole", "cases"):
            self.assertTrue(is_name(word), word)
        for word in ("", "abcdefghi", "A", "a1", "a_b", "a b", "\u00e9", "\u0430"):
            self.assertFalse(is_name(word), word)
        for value in (None, 1, True, b"a", ("a",), ["a"], {"a": 1}, Scheme(A)):
            self.assertFalse(is_name(value))
        barred = "data role case define derive picks above settles member as if given let and in match end"
        for word in barred.split():
            self.assertFalse(is_name(word), word)

    def test_integers(self):
        self.assertTrue(is_integer(0) and is_integer(-(10**99)))
        for value in (True, False, None, "1"):
            self.assertFalse(is_integer(value))

    def test_first_names_leave_out_barred_words(self):
        names = first_names(26 + 26 * 26 + 3)
        self.assertEqual(names[:3], ("a", "b", "c"))
        self.assertEqual(names[25:28], ("z", "aa", "ab"))
        for word in ("as", "if", "in"):
            self.assertNotIn(word, names)
        self.assertEqual(names[names.index("ar") + 1], "at")
        self.assertEqual(names[names.index("zz") + 1], "aaa")
        self.assertEqual(len(set(names)), len(names))


class TestMaking(unittest.TestCase):
    def test_var_and_con(self):
        self.assertEqual(var("a"), ("var", "a"))
        self.assertEqual(var(name="a"), ("var", "a"))
        self.assertEqual(con("list"), ("con", "list"))
        self.assertEqual(con(name="list"), ("con", "list"))
        self.assertEqual(con("list", A), ("apply", ("con", "list"), A))
        self.assertEqual(con("pair", A, B), ("apply", ("apply", ("con", "pair"), A), B))

    def test_to(self):
        self.assertEqual(to(A), A)
        self.assertEqual(to(A, B), con("to", A, B))
        self.assertEqual(to(A, B, C), con("to", A, con("to", B, C)))
        self.assertEqual(to(to(A, B), C), con("to", con("to", A, B), C))


class TestIsKind(unittest.TestCase):
    def test_kinds(self):
        for kind in (A, WHOLE, con("none"), con("list", A), ("apply", A, WHOLE), con("to", A, B, C), con("to")):
            self.assertIs(is_kind(kind), True)

    def test_others(self):
        for value in (
            None, True, 0, 10**99, "a", "", (), [], {}, ("var",), ("con",), ("apply",), ("var", "a", "b"), ["var", "a"],
            ("var", "A"), ("con", "data"), ("var", "abcdefghi"), ("con", ""), ("con", 1), ("con", ("con", "a")),
            ("apply", A), ("apply", A, B, C), ("apply", A, ["var", "a"]), ["apply", A, B], ("apply", "list", A),
            ("apply", A, None), ("pair", A, B), ("var", A, B), ("con", A, B), ("kind", "a"), (None, "a"), ([], "a"), Scheme(A), ("apply", Scheme(A), A),
            ("var", ["a"]), ({}, {}), (True, "a"),
        ):
            self.assertIs(is_kind(value), False, value)

    def test_deep_values(self):
        self.assertTrue(is_kind(nested(250, lambda x: con("list", x), A)))
        self.assertTrue(is_kind(nested(250, lambda x: ("apply", x, A), A)))
        self.assertFalse(is_kind(nested(250, lambda x: ("apply", A, x), ["var", "a"])))
        self.assertFalse(is_kind(nested(250, lambda x: (x,), ())))
        self.assertFalse(is_kind(nested(250, lambda x: [x], 1)))


class TestAsking(unittest.TestCase):
    def test_size(self):
        self.assertEqual(size_of(), 0)
        self.assertEqual(size_of(A), 1)
        self.assertEqual(size_of(to(A, A)), 3)
        self.assertEqual(size_of(to(A, con("list", B)), WHOLE), 5)

    def test_variables(self):
        self.assertEqual(variables_of(), ())
        self.assertEqual(variables_of(WHOLE), ())
        self.assertEqual(variables_of(to(B, A, B), C, A), ("b", "a", "c"))
        self.assertEqual(variables_of(("apply", C, con("pair", B, A))), ("c", "b", "a"))

    def test_put(self):
        self.assertEqual(put(to(A, B), {"a": B, "b": A}), to(B, A))
        self.assertEqual(put(to(A, C), {"a": con("list", A)}), to(con("list", A), C))
        self.assertEqual(put(("apply", A, B), {"a": con("list")}), con("list", B))
        by = {"a": B}
        self.assertEqual(put(kind=A, by=by), B)
        self.assertEqual(by, {"a": B})
        self.assertEqual(put(con("a"), {"a": B}), con("a"))
        self.assertEqual(put(A, {}), A)

    def test_deep_kinds(self):
        kind = nested(40, lambda x: con("list", x), A)
        self.assertEqual(text_of(kind).count("("), 39)
        self.assertEqual(size_of(put(kind, {"a": kind})), 81)


class TestText(unittest.TestCase):
    def check(self, kind, text):
        self.assertEqual(text_of(kind), text)

    def test_examples(self):
        self.check(to(A, con("list", con("pair", A, WHOLE))), "'a -> list ( pair 'a whole )")
        self.check(to(to(A, B), ("apply", var("f"), A)), "( 'a -> 'b ) -> 'f 'a")
        self.check(con("to", A), "to 'a")
        self.check(con("to", A, B, C), "( 'a -> 'b ) 'c")

    def test_parentheses(self):
        self.check(con("to"), "to")
        self.check(A, "'a")
        self.check(to(A, B, C), "'a -> 'b -> 'c")
        self.check(to(to(to(A, B), C), A), "( ( 'a -> 'b ) -> 'c ) -> 'a")
        self.check(con("list", to(A, B)), "list ( 'a -> 'b )")
        self.check(con("list", con("to")), "list to")
        self.check(con("list", con("to", A)), "list ( to 'a )")
        self.check(con("to", con("list", A)), "to ( list 'a )")
        self.check(con("to", to(A, B)), "to ( 'a -> 'b )")
        self.check(con("to", to(A, B), B, C, con("list", A)), "( ( 'a -> 'b ) -> 'b ) 'c ( list 'a )")
        self.check(to(con("to", A, B, C), C), "( 'a -> 'b ) 'c -> 'c")
        self.check(to(con("to", A), con("to", B)), "to 'a -> to 'b")
        self.check(con("list", con("to", A, B, C)), "list ( ( 'a -> 'b ) 'c )")
        self.check(("apply", var("f"), ("apply", var("g"), A)), "'f ( 'g 'a )")
        self.check(to(con("pair", A, B), C), "pair 'a 'b -> 'c")
        self.check(to(("apply", ("apply", var("f"), A), B), C), "'f 'a 'b -> 'c")
        self.check(con("pair", con("list", A), con("none")), "pair ( list 'a ) none")


if __name__ == "__main__":
    unittest.main()
