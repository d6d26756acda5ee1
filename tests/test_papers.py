"""Right papers and right papers of lacking: points 41 and 42."""

import unittest

from leastneeds.errors import InvalidNeed
from leastneeds.kinds import con, to
from leastneeds.papers import is_lacking, is_paper
from leastneeds.program import Program
from leastneeds.search import Context

from samples import A, B, C, F, TEXT, WHOLE, lattice, listed, pair, settling, used

LATTICE = lattice()

DEEP = ()
for _ in range(245):
    DEEP = (DEEP,)

ODD_VALUES = (
    None, True, False, 0, 10**99, "", "given", (), [], {}, DEEP, LATTICE, WHOLE, ("given",), ("given", 0), ("case",),
    ["given", 0, ()], ("given", 0, [],), ("given", 0, (), ()), ("given", None, ()), ("given", 0, None), ("lacking", ()),
    ("given", 0, ("above", 0)), ("given", 0, (("above",),)), ("given", 0, (("above", 0, 0),)), ("given", 0, (["above", 0],)),
    ("given", 0, (("above", None),)), ("given", 0, (("above", True),)), ("given", 0, ((DEEP, 0),)), ("given", DEEP, ()),
    ("given", True, ()), ("given", "0", ()), ("case", None, ()), ("case", "lowwhole"), ("case", DEEP, ()), ("case", "lowwhole", []),
    ("case", "lowwhole", None), (DEEP, 0, ()), (None, 0, ()), ("Given", 0, ()), ({}, {}, {}),
)


class TestIsPaper(unittest.TestCase):
    def test_given(self):
        context = Context(LATTICE, ("top", A), ("low", listed(B)), ("mid", pair(A, B)))
        for need, paper in (
            (("top", A), ("given", 0, ())),
            (("mid", A), ("given", 0, (("above", 0),))),
            (("side", A), ("given", 0, (("above", 1),))),
            (("low", A), ("given", 0, (("above", 0), ("above", 0)))),
            (("low", A), ("given", 0, (("above", 1), ("above", 0)))),
            (("low", listed(B)), ("given", 1, ())),
            (("low", B), ("given", 1, (("part", 0),))),
            (("mid", A), ("given", 2, (("part", 0),))),
            (("low", B), ("given", 2, (("part", 1),))),
            (("low", A), ("given", 2, (("part", 0), ("above", 0)))),
            (("low", B), ("given", 2, (("above", 0), ("part", 1)))),
        ):
            self.assertTrue(is_paper(context, need, paper), paper)
            for other in (("top", B), ("low", C), ("mid", listed(A)), ("words", A)):
                self.assertFalse(is_paper(context, other, paper))
        for paper in (
            ("given", 3, ()), ("given", -1, ()), ("given", 1, ()), ("given", 0, (("above", 2),)), ("given", 0, (("above", -1),)),
            ("given", 0, (("part", 0),)), ("given", 0, (("under", 0),)), ("given", 1, (("part", 1),)), ("given", 1, (("above", 0),)),
            ("given", 1, (("under", 0),)), ("given", 1, (("part", 0, 0),)), ("given", 0, (["above", 0],)), ("given", 0, (("above", False),)),
            ("given", 1, (["part", 0],)), ("given", 0, [("above", 0)]), ("given", False, (("above", 0),)), ("given", True, (("part", 0),)),
            ("given", 0, (("above", 0), ("above", 0), ("above", 0))),
        ):
            for need in (("top", A), ("low", A), ("low", B), ("mid", A), ("side", A)):
                self.assertFalse(is_paper(context, need, paper), paper)

    def test_case(self):
        context = Context(LATTICE, ("low", A), ("mid", B))
        low = ("given", 0, ())
        down = ("given", 1, (("above", 0),))
        whole = ("case", "lowwhole", ())
        both = ("case", "lowpair", (low, down))
        for need, paper in (
            (("low", WHOLE), whole),
            (("low", listed(WHOLE)), ("case", "lowlist", (whole,))),
            (("low", listed(A)), ("case", "lowlist", (low,))),
            (("low", pair(A, B)), both),
            (("low", pair(B, A)), ("case", "lowpair", (down, low))),
            (("low", pair(pair(A, B), listed(WHOLE))), ("case", "lowpair", (both, ("case", "lowlist", (whole,))))),
            (("mid", pair(B, A)), ("case", "midpair", (("given", 1, ()), low))),
        ):
            self.assertTrue(is_paper(context, need, paper), paper)
            for other in (("low", TEXT), ("low", listed(TEXT)), ("mid", pair(A, B)), ("low", pair(A, A))):
                self.assertFalse(is_paper(context, other, paper), (other, paper))
        need = ("low", pair(pair(A, B), listed(WHOLE)))
        for paper in (
            ("case", "lowpair", (both,)),
            ("case", "lowpair", (both, ("case", "lowlist", (whole,)), whole)),
            ("case", "lowpair", [both, ("case", "lowlist", (whole,))]),
            ("case", "lowlist", (both, ("case", "lowlist", (whole,)))),
            ("case", "midpair", (both, ("case", "lowlist", (whole,)))),
            ("case", "none", (both, ("case", "lowlist", (whole,)))),
            ("case", "lowpair", (both, ("case", "lowlist", (low,)))),
            ("case", "lowpair", (("case", "lowpair", (down, low)), ("case", "lowlist", (whole,)))),
            ("case", "lowpair", (both, ("case", "lowlist", (None,)))),
            ("case", "lowpair", (both, None)),
            ("lowpair", "case", (both, ("case", "lowlist", (whole,)))),
        ):
            self.assertFalse(is_paper(context, need, paper), paper)

    def test_deep_in_one_another(self):
        kind, paper = WHOLE, ("case", "lowwhole", ())
        for _ in range(60):
            kind, paper = listed(kind), ("case", "lowlist", (paper,))
        self.assertTrue(is_paper(Context(LATTICE), ("low", kind), paper))
        self.assertFalse(is_paper(Context(LATTICE), ("low", listed(kind)), paper))
        self.assertFalse(is_paper(Context(LATTICE), ("low", kind), ("case", "lowlist", (paper,))))

    def test_all_that_are_found(self):
        context = Context(LATTICE, ("top", A), ("low", listed(A)), ("side", pair(A, B)), ("low", B))
        for need in (("low", A), ("low", listed(A)), ("low", pair(A, B)), ("mid", pair(A, B)), ("top", listed(A))):
            found = list(context.papers(need))
            self.assertEqual(len(found) > 0, context.meets(need))
            for paper in found:
                self.assertTrue(is_paper(context, need, paper))
                self.assertFalse(is_paper(Context(LATTICE), need, paper))

    def test_several_variables(self):
        context = Context(settling(), ("over", A, B), ("turns", listed(A), pair(A, A)))
        self.assertTrue(is_paper(context, ("turns", A, B), ("given", 0, (("above", 0),))))
        self.assertFalse(is_paper(context, ("turns", B, A), ("given", 0, (("above", 0),))))
        self.assertTrue(is_paper(context, ("turns", listed(A), pair(A, A)), ("case", "turnl", ())))
        self.assertFalse(is_paper(context, ("turns", listed(A), pair(A, B)), ("case", "turnl", ())))
        self.assertTrue(is_paper(context, ("loose", listed(A), B), ("case", "loosel", (("given", 0, (("above", 0),)),))))

    def test_any_value(self):
        context = Context(LATTICE, ("low", A), ("top", A))
        for value in ODD_VALUES:
            for need in (("low", WHOLE), ("low", listed(A)), ("mid", B)):
                self.assertFalse(is_paper(context, need, value), value)
                self.assertFalse(is_paper(context, ("low", listed(WHOLE)), ("case", "lowlist", (value,))), value)

    def test_needs_that_are_none(self):
        context = Context(LATTICE, ("low", A))
        for ask in (is_paper, is_lacking):
            for need in (None, 1, "low", (), ("low",), ("none", A), ("low", A, B), ("low", con("none")), ["low", A], DEEP,
                         ("low", con("list")), ("low", used(F, A), A), ("low", listed(con("list"))), ("low", ("var", "A"))):
                with self.assertRaises(InvalidNeed) as caught:
                    ask(context, need, ("given", 0, ()))
                self.assertIs(caught.exception.value, need)


class TestIsLacking(unittest.TestCase):
    def right(self, context, need, *needs):
        self.assertTrue(is_lacking(context, need, ("lacking", needs)), needs)

    def wrong(self, context, need, *needs):
        self.assertFalse(is_lacking(context, need, ("lacking", needs)), needs)

    def test_right_ones(self):
        context = Context(LATTICE, ("low", A))
        self.right(context, ("low", B), ("low", B))
        self.right(context, ("low", listed(B)), ("low", listed(B)), ("low", B))
        self.right(context, ("low", B), ("low", listed(B)), ("low", B))
        self.right(context, ("low", pair(A, B)), ("low", B), ("low", pair(A, B)))
        self.right(context, ("low", B), ("low", B), ("mid", A), ("low", to(A, A)))
        self.right(context, ("mid", pair(A, B)), ("mid", pair(A, B)), ("mid", A))
        self.right(context, ("mid", pair(A, B)), ("mid", pair(A, B)), ("low", B))

    def test_wrong_ones(self):
        context = Context(LATTICE, ("low", A))
        # The need has to be among them.
        self.wrong(context, ("low", B))
        self.wrong(context, ("low", B), ("low", C))
        # Some part of what fits a case has to be among them.
        self.wrong(context, ("low", listed(B)), ("low", listed(B)))
        self.wrong(context, ("low", listed(B)), ("low", listed(B)), ("low", C))
        self.wrong(context, ("low", pair(A, B)), ("low", pair(A, B)), ("low", listed(B)), ("low", C))
        self.wrong(context, ("low", WHOLE), ("low", WHOLE))
        # None may be there.
        self.wrong(context, ("low", A), ("low", A))
        self.wrong(context, ("low", B), ("low", B), ("low", A))
        self.wrong(Context(LATTICE, ("low", pair(A, B))), ("low", A), ("low", A))
        self.wrong(Context(LATTICE, ("mid", B)), ("low", B), ("low", B))
        # They are different needs of the program.
        self.wrong(context, ("low", B), ("low", B), ("low", B))
        self.wrong(context, ("low", B), ("low", B), ("none", B))
        self.wrong(context, ("low", B), ("low", B), ("low", con("none")))
        self.wrong(context, ("low", B), ("low", B), ("low", con("list")))
        self.wrong(context, ("low", B), ("low", B), None)

    def test_a_part_that_is_met_is_not_enough(self):
        context = Context(LATTICE, ("low", A))
        self.wrong(context, ("low", pair(A, B)), ("low", pair(A, B)), ("low", A))

    def test_any_value(self):
        context = Context(LATTICE, ("low", A))
        need = ("low", B)
        values = ODD_VALUES + (
            ("lacking", [need]), ("lacking", (need,), ()), ["lacking", (need,)], ("lacking",), ("Lacking", (need,)), (need,), need,
            ("lacking", need), ("lacking", (need, DEEP)), ("lacking", {}), (DEEP, (need,)), ("lacking", (["low", B],)),
        )
        for value in values:
            self.assertFalse(is_lacking(context, need, value), value)

    def test_all_that_are_found(self):
        context = Context(LATTICE, ("mid", A), ("low", listed(B)))
        for need in (("top", A), ("low", C), ("mid", pair(B, A)), ("mid", pair(A, C)), ("top", listed(A)), ("low", A), ("low", B)):
            found = context.lacking(need)
            if context.meets(need):
                self.assertIsNone(found)
                self.assertFalse(is_lacking(context, need, ("lacking", (need,))))
            else:
                self.assertTrue(is_lacking(context, need, found))

    def test_empty_program(self):
        context = Context(Program())
        self.right(context, ("same", to(A, A)), ("same", to(A, A)))
        self.wrong(context, ("same", WHOLE), ("same", WHOLE))


if __name__ == "__main__":
    unittest.main()
