"""Rings of definitions: point 50."""

import unittest

from leastneeds.errors import UnknownName
from leastneeds.groups import rings, uses
from leastneeds.program import Program


def program(*lines):
    return Program.read("\n".join(lines))


class TestUses(unittest.TestCase):
    def test_ascending_and_once(self):
        found = program("define b = 1", "define a = 2", "define c = plus a ( plus b a )", "define d = d")
        self.assertEqual(uses(found, "c"), ("a", "b"))
        self.assertEqual(uses(found, "a"), ())
        self.assertEqual(uses(found, "d"), ("d",))

    def test_told_ones_count(self):
        found = program("define a : whole = b", "define b : whole = a", "define c = plus a b")
        self.assertEqual(uses(found, "a"), ("b",))
        self.assertEqual(uses(found, "c"), ("a", "b"))

    def test_hidden_names(self):
        found = program(
            "data box 'a = box 'a",
            "define a = 1",
            "define b = given a . a",
            "define c = match box 1 | box a = a end",
            "define d = let a = b in a",
            "define e = let b = a in given a . plus a b",
            "define f = plus ( ( given a . a ) 1 ) a",
            "define g = match box a | box a = a end",
            "define h = let x = a and y = let a = 1 in a in x",
        )
        self.assertEqual(uses(found, "b"), ())
        self.assertEqual(uses(found, "c"), ())
        self.assertEqual(uses(found, "d"), ("b",))
        self.assertEqual(uses(found, "e"), ("a",))
        self.assertEqual(uses(found, "f"), ("a",))
        self.assertEqual(uses(found, "g"), ("a",))
        self.assertEqual(uses(found, "h"), ("a",))

    def test_names_of_no_definition(self):
        found = program("define a = alike ( plus 1 2 ) ( match yes | no = 1 | yes = 2 end )")
        self.assertEqual(uses(found, "a"), ())
        for value in ("b", "plus", "alike", "yes", "truth", "same", None, 0, True, ["a"], ("a",), {}, found):
            with self.assertRaises(UnknownName) as caught:
                uses(found, value)
            self.assertIs(caught.exception.value, value)


class TestRings(unittest.TestCase):
    def test_none(self):
        self.assertEqual(rings(Program()), ())

    def test_alone(self):
        self.assertEqual(rings(program("define a = 1", "define b = b")), (("a",), ("b",)))

    def test_behind_those_that_they_use(self):
        found = program("define a = b", "define b = c", "define c = 1", "define d = a")
        self.assertEqual(rings(found), (("c",), ("b",), ("a",), ("d",)))

    def test_the_first_that_may_come_next(self):
        found = program(
            "define a = e", "define b = 1", "define c = 1", "define d = b", "define e = c", "define f = 2"
        )
        # c comes ahead of d and of e; as soon as e is there, a comes.
        self.assertEqual(rings(found), (("b",), ("c",), ("d",), ("e",), ("a",), ("f",)))

    def test_two_and_more_in_a_ring(self):
        found = program(
            "define z = given n . y n",
            "define k = z",
            "define x = given n . z n",
            "define y = given n . x n",
            "define p = given n . q n",
            "define q = given n . p n",
        )
        self.assertEqual(rings(found), (("z", "x", "y"), ("k",), ("p", "q")))

    def test_rings_that_use_one_another(self):
        found = program(
            "define a = given n . b n",
            "define b = given n . plus ( a n ) ( c n )",
            "define c = given n . d n",
            "define d = given n . plus ( c n ) e",
            "define e = 1",
        )
        self.assertEqual(rings(found), (("e",), ("c", "d"), ("a", "b")))

    def test_told_ones_make_no_ring(self):
        found = program("define a = given n . b n", "define b : whole -> whole = given n . a n")
        self.assertEqual(rings(found), (("a",), ("b",)))
        found = program("define b : whole -> whole = given n . a n", "define a = given n . b n")
        self.assertEqual(rings(found), (("a",), ("b",)))
        # Without told schemes among them all three use one another.
        found = program("define a = given n . b n", "define b = given n . c n", "define c = given n . a n")
        self.assertEqual(rings(found), (("a", "b", "c"),))
        found = program("define a = given n . b n", "define b : 'a -> 'b = given n . c n", "define c = given n . a n")
        self.assertEqual(rings(found), (("a",), ("c",), ("b",)))

    def test_told_ones_are_not_waited_for(self):
        found = program("define a = b", "define b : whole = c", "define c = 1")
        self.assertEqual(rings(found), (("a",), ("c",), ("b",)))

    def test_hidden_names_make_no_ring(self):
        found = program("define a = given b . b", "define b = a")
        self.assertEqual(rings(found), (("a",), ("b",)))

    def test_long_rows(self):
        names = ["d" + one + other for one in "abcdefghij" for other in "abcdefghij"]
        lines = [f"define {name} = given n . {other} n" for name, other in zip(names, names[1:] + names[:1])]
        self.assertEqual(rings(program(*lines)), (tuple(names),))
        lines[-1] = f"define {names[-1]} = given n . n"
        self.assertEqual(rings(program(*lines)), tuple((name,) for name in reversed(names)))


if __name__ == "__main__":
    unittest.main()
