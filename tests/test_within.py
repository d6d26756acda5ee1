"""Schemes within others: point 57."""

import unittest

from leastneeds.errors import InvalidScheme
from leastneeds.kinds import put, text_of
from leastneeds.needs import put_needs
from leastneeds.papers import is_paper
from leastneeds.program import Program
from leastneeds.reader import read_kind, read_scheme
from leastneeds.search import Context
from leastneeds.within import within

PROGRAM = Program.read(
    """data list 'a = nil | cons 'a ( list 'a )
data pair 'a 'b = two 'a 'b
data idle 'a = idle
derive slist : same list
derive olist : order list
derive spair : same pair
derive sidle : same idle
role turns 'a 'b settles 0 1
member turn : 'a -> 'b
role both 'a 'b settles 0 1 , 1 0
member into : 'a -> 'b
role over 'a 'b above turns 'a 'b
member overm : 'a -> 'b
role loose 'a 'b
member slip : 'a -> 'b
case turnw : turns whole text
as turn = spell
case turnl : turns ( list 'a ) ( pair 'a truth )
as turn = given x . turn x"""
)


class TestWithin(unittest.TestCase):
    def told(self, one, other):
        one, other = read_scheme(one), read_scheme(other)
        found = within(PROGRAM, one, other)
        if found is None:
            return None
        self.assertIsInstance(found, tuple)
        by, papers = found
        self.assertEqual(sorted(by), sorted(other.variables))
        self.assertEqual(put(other.kind, by), one.kind)
        needs = put_needs(other.needs, by)
        self.assertEqual(len(papers), len(needs))
        for need, paper in zip(needs, papers):
            self.assertTrue(is_paper(Context(PROGRAM, *one.needs), need, paper))
        return {name: text_of(by[name]) for name in by}

    def test_kinds_alone(self):
        self.assertEqual(self.told("whole", "whole"), {})
        self.assertEqual(self.told("whole", "'a"), {"a": "whole"})
        self.assertIsNone(self.told("'a", "whole"))
        self.assertEqual(self.told("'a -> 'a", "'a -> 'b"), {"a": "'a", "b": "'a"})
        self.assertIsNone(self.told("'a -> 'b", "'a -> 'a"))
        self.assertEqual(self.told("list whole -> text", "'f 'a -> 'b"), {"f": "list", "a": "whole", "b": "text"})

    def test_the_same_names_on_both_sides(self):
        self.assertEqual(self.told("'b -> 'a", "'a -> 'b"), {"a": "'b", "b": "'a"})
        self.assertEqual(self.told("'b -> list 'a", "'a -> 'b"), {"a": "'b", "b": "list 'a"})
        self.assertIsNone(self.told("'a -> list 'b", "'b -> 'b"))
        self.assertEqual(self.told("'a -> 'b if same 'a", "'b -> 'a if same 'b"), {"b": "'a", "a": "'b"})
        self.assertIsNone(self.told("'a -> 'b if same 'a", "'b -> 'a if same 'a"))

    def test_needs(self):
        self.assertEqual(self.told("'a -> 'a if same 'a", "'a -> 'a"), {"a": "'a"})
        self.assertIsNone(self.told("'a -> 'a", "'a -> 'a if same 'a"))
        self.assertEqual(self.told("'a -> 'a if order 'a", "'a -> 'a if same 'a"), {"a": "'a"})
        self.assertIsNone(self.told("'a -> 'a if same 'a", "'a -> 'a if order 'a"))
        self.assertEqual(self.told("list 'x if same 'x", "'a if same 'a"), {"a": "list 'x"})
        self.assertEqual(self.told("list whole", "'a if same 'a , order 'a"), {"a": "list whole"})
        self.assertIsNone(self.told("whole -> whole", "'a if same 'a"))
        self.assertEqual(self.told("'a -> 'b if same ( pair 'a 'b )", "'a -> 'b if same 'a , same 'b"), {"a": "'a", "b": "'b"})
        self.assertEqual(self.told("'a if same 'a , same 'a", "'a if same ( list 'a )"), {"a": "'a"})

    def test_in_both_directions(self):
        one, other = "'a -> 'b if same 'a , order 'b", "'b -> 'a if order 'a , same 'b , same ( list 'a )"
        self.assertEqual(self.told(one, other), {"b": "'a", "a": "'b"})
        self.assertEqual(self.told(other, one), {"a": "'b", "b": "'a"})

    def test_papers(self):
        one = read_scheme("list 'x -> truth if words 'x , order 'x")
        other = read_scheme("'a -> truth if same 'a , order 'a")
        by, papers = within(PROGRAM, one, other)
        self.assertEqual(by, {"a": read_kind("list 'x")})
        same = ("case", "slist", (("given", 1, (("above", 0),)),))
        self.assertEqual(papers, (same, ("case", "olist", (("given", 1, ()),))))
        self.assertEqual(within(PROGRAM, read_scheme("whole"), read_scheme("'a")), ({"a": read_kind("whole")}, ()))
        self.assertEqual(within(program=PROGRAM, one=read_scheme("whole"), other=read_scheme("whole")), ({}, ()))

    def test_variables_that_needs_settle(self):
        self.assertEqual(self.told("whole -> whole", "'a -> 'a if turns 'a 'b"), {"a": "whole", "b": "text"})
        self.assertEqual(self.told("list 'x", "'a if turns 'a 'b"), {"a": "list 'x", "b": "pair 'x truth"})
        self.assertEqual(self.told("'x if turns 'x 'y", "'a if turns 'a 'b"), {"a": "'x", "b": "'y"})
        self.assertEqual(self.told("'b if turns 'b 'a", "'a if turns 'a 'b"), {"a": "'b", "b": "'a"})
        self.assertEqual(self.told("'x if over 'x 'y", "'a if turns 'a 'b"), {"a": "'x", "b": "'y"})
        self.assertIsNone(self.told("'x", "'a if turns 'a 'b"))
        self.assertIsNone(self.told("text", "'a if turns 'a 'b"))
        self.assertIsNone(self.told("'x if turns 'x 'y", "'a if over 'a 'b"))
        self.assertEqual(self.told("whole", "'a if turns 'a 'b , same 'b"), {"a": "whole", "b": "text"})
        self.assertEqual(self.told("'x if turns 'x 'y , same 'y", "'a if same 'b , turns 'a 'b"), {"a": "'x", "b": "'y"})
        self.assertIsNone(self.told("'x if turns 'x 'y", "'a if turns 'a 'b , same 'b"))
        # One settled kind settles the next one.
        self.assertEqual(
            self.told("'x if turns 'x 'y , turns 'y 'z", "'a if turns 'a 'b , turns 'b 'c"), {"a": "'x", "b": "'y", "c": "'z"}
        )
        self.assertEqual(self.told("'x if both 'y 'x", "'a if both 'b 'a"), {"a": "'x", "b": "'y"})
        self.assertIsNone(self.told("'x if both 'y 'x", "'a if both 'a 'b"))

    def test_settled_otherwise(self):
        self.assertIsNone(self.told("whole -> whole", "'a -> 'b if turns 'a 'b"))
        self.assertEqual(self.told("whole -> text", "'a -> 'b if turns 'a 'b"), {"a": "whole", "b": "text"})
        self.assertIsNone(self.told("'a -> 'b if turns 'a 'c", "'a -> 'b if turns 'a 'b"))

    def test_the_other_need_not_be_steady(self):
        other = "'a -> 'b -> 'c if turns 'a 'b , turns 'a 'c"
        self.assertEqual(self.told("'a -> 'b -> 'b if turns 'a 'b", other), {"a": "'a", "b": "'b", "c": "'b"})
        self.assertIsNone(self.told(other, other))
        self.assertEqual(self.told("whole -> text", "whole -> 'b if turns whole 'b"), {"b": "text"})
        self.assertIsNone(self.told("whole -> 'b if turns whole 'b", "whole -> 'b if turns whole 'b"))
        self.assertIsNone(self.told("whole -> 'b if turns whole 'b", "whole -> 'b"))

    def test_not_clear(self):
        fine = read_scheme("'a")
        for text in ("'a if same 'b", "'a if turns 'b 'a", "'a if loose 'a 'b", "'a if same ( idle 'b )"):
            scheme = read_scheme(text)
            other = read_scheme("whole if same 'b")
            for one, two, wrong in ((scheme, fine, scheme), (fine, scheme, scheme), (scheme, other, scheme), (other, scheme, other)):
                with self.assertRaises(InvalidScheme) as caught:
                    within(PROGRAM, one, two)
                self.assertIs(caught.exception.value, wrong)
        # This is told ahead of all else.
        with self.assertRaises(InvalidScheme):
            within(PROGRAM, read_scheme("'a -> 'b if turns 'a 'b , turns 'b 'a"), read_scheme("whole if same 'c"))

    def test_no_scheme_of_the_program(self):
        fine = read_scheme("'a")
        texts = ("zzz", "list zzz", "'a if zzz 'a", "'a if same 'a 'a", "'a if turns 'a", "'a if same zzz")
        shapes = ("list", "whole whole", "'a if same list", "'a -> 'a whole", "'a if turns 'a to", "'f -> 'a if same ( 'f 'a )")
        values = [read_scheme(text) for text in texts + shapes]
        for value in values + [None, True, 7, "'a", ("var", "a"), [fine], PROGRAM, ("con", "whole"), {}, fine.kind]:
            for one, two in ((value, fine), (fine, value), (value, None)):
                with self.assertRaises(InvalidScheme) as caught:
                    within(PROGRAM, one, two)
                self.assertIs(caught.exception.value, value)


if __name__ == "__main__":
    unittest.main()
