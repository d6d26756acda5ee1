"""Faults: points 24, 55 and 56, and the schemes of names."""

import unittest

from leastneeds.declarations import Data, Definition
from leastneeds.errors import Faulty, UnknownName, Wrong
from leastneeds.faults import fault_of
from leastneeds.inferring import scheme_of
from leastneeds.kinds import con, size_of, to, var
from leastneeds.program import Program
from leastneeds.reader import read_scheme, read_term
from leastneeds.schemes import Scheme

from samples import listed, pair

BASE = (
    "data list 'a = nil | cons 'a ( list 'a )",
    "data pair 'a 'b = two 'a 'b",
    "data idle 'a = idle",
    "derive slist : same list",
    "derive wlist : words list",
    "derive sidle : same idle",
    "role turns 'a 'b settles 0 1",
    "member turn : 'a -> 'b",
    "role zeros 'a",
    "member zero : 'a",
    "member blank : 'a -> text = given x . \"blank\"",
    "case turnw : turns whole text",
    "as turn = spell",
    "case zerow : zeros whole",
    "as zero = 0",
    "case zerot : zeros text",
    "as zero = \"\"",
    "as blank = given x . x",
)


def program(*lines):
    return Program.read("\n".join(lines))


def based(*lines):
    return program(*BASE, *lines)


class FaultCase(unittest.TestCase):
    def faults_are(self, lines, *faults, base=BASE):
        found = program(*base, *lines)
        self.assertEqual(found.faults, faults)
        self.assertEqual(found.is_right, len(faults) == 0)
        told = dict(found.faults)
        for row in found.declarations:
            if isinstance(row, Definition):
                where = ("definition", row.name)
                self.assertEqual(found.fault(where), told.get(where))
                if where in told:
                    with self.assertRaises(Faulty) as caught:
                        found.scheme(row.name)
                    self.assertEqual(caught.exception.where, where)
                else:
                    self.assertIsInstance(found.scheme(row.name), Scheme)
        return found

    def definitions(self, lines, **faults):
        """The faults of definitions, in their order; no others."""
        return self.faults_are(lines, *[(("definition", name), faults[name]) for name in faults])


class TestDefinitions(FaultCase):
    def test_none(self):
        self.definitions(["define f = given x . alike x zero", "define g = f 1"])

    def test_each_by_itself(self):
        self.definitions(["define f = plus 1 \"a\""], f=("unfit", (1,)))
        self.definitions(["define f = given x . x x"], f=("unfit", (0, 1)))
        self.definitions(["define f = alike plus"], f=("lacking", (1,)))
        self.definitions(["define f = alike nil nil"], f=("unclear", "same"))
        self.definitions(["define f = g", "define g = 1 2"], f=("stuck", "g"), g=("unfit", (0,)))

    def test_first_place_in_reading_order(self):
        self.definitions(["define f = two ( alike plus ) ( 1 2 )"], f=("lacking", (0, 1, 1)))
        self.definitions(["define f = two ( 1 2 ) ( alike plus )"], f=("unfit", (0, 1, 0)))
        self.definitions(["define f = let x = 1 2 and y = alike plus in y"], f=("unfit", (0, 0)))
        self.definitions(["define f = let x = alike plus and y = 1 2 in x"], f=("unfit", (1, 0)))
        self.definitions(["define f = let x = alike plus and y = x in two 1 y"], f=("lacking", (2, 1)))
        self.definitions(["define f = match 1 | nil = alike plus | cons h t = 2 end"], f=("unfit", (0,)))
        self.definitions(["define f = match nil | nil = 1 | cons h t = yes end"], f=("unfit", (2,)))

    def test_several_at_once(self):
        # What is unfit or lacking is told ahead of what is unclear, and that ahead of what is stuck.
        self.definitions(["define f = two ( alike nil nil ) ( alike plus )"], f=("lacking", (1, 1)))
        lines = ["define f = two g ( alike nil nil )", "define g = 1 2"]
        self.definitions(lines, f=("unclear", "same"), g=("unfit", (0,)))
        lines = ["define f = two g ( alike plus )", "define g = 1 2"]
        self.definitions(lines, f=("lacking", (1, 1)), g=("unfit", (0,)))

    def test_unclear(self):
        self.definitions(["define f = two ( shown nil ) ( alike nil nil )"], f=("unclear", "same"))
        self.definitions(["define f = given x . alike nil x"], )
        self.definitions(["define f = alike idle idle"])
        self.definitions(["define f = given x . shown ( turn x )"])
        self.definitions(["define f = given y . shown ( turn zero )"], f=("unclear", "turns"))
        # One of a ring may be clear where another one is not.
        lines = [
            "define f = given x . match alike x x | yes = g 1 | no = 2 end",
            "define g = given n . f zero",
        ]
        self.definitions(lines, f=("stuck", "g"), g=("unclear", "same"))

    def test_great(self):
        dup = "define dup = given x . two x x"
        lines = [dup, "define b = dup ( dup ( dup 1 ) )", "define c = dup ( dup ( dup ( dup b ) ) )"]
        self.definitions(lines)
        self.assertEqual(based(*lines).scheme("c").size, 255)
        lines = [dup, "define b = dup ( dup ( dup 1 ) )", "define c = dup ( dup ( dup ( dup ( dup b ) ) ) )"]
        self.definitions(lines + ["define d = plus c 1"], c=("great",), d=("stuck", "c"))
        # What is doubled many times has a size that no one could write.
        many = "define c = " + "dup ( " * 18 + "dup ( dup b )" + " )" * 18
        self.definitions(lines[:2] + [many], c=("great",))

    def test_great_told(self):
        kind = con("whole")
        for _ in range(199):
            kind = pair(con("whole"), kind)
        self.assertEqual(size_of(kind), 399)
        for told, fault in ((listed(kind), None), (listed(listed(kind)), ("great",))):
            found = based().with_more(
                Definition("f", read_term("nil"), told=Scheme(told)),
                Definition("g", read_term("match f | nil = 1 | cons h t = 2 end")),
            )
            self.assertEqual(found.fault(("definition", "f")), fault)
            self.assertEqual(found.fault(("definition", "g")), fault and ("stuck", "f"))

    def test_great_with_needs(self):
        kind = con("whole")
        for _ in range(149):
            kind = pair(con("whole"), kind)
        for many, fault in ((99, None), (100, ("great",))):
            # The needs that are told count, not those that are asked.
            needs = [("words", var("a"))] * many
            told = Scheme.under(to(var("a"), kind), needs)
            self.assertEqual(told.size, 301 + many)
            term = read_term("given x . f x")
            found = based().with_more(Definition("f", term, told=told))
            self.assertEqual(found.fault(("definition", "f")), fault)

    def test_holes_for_faulty_uses(self):
        lines = ["define bad = 1 2", "define worse = alike plus", "define dark = alike nil nil", "define late = two bad 1"]
        faults = {
            "bad": ("unfit", (0,)),
            "worse": ("lacking", (1,)),
            "dark": ("unclear", "same"),
            "late": ("stuck", "bad"),
        }
        for name in ("bad", "worse", "dark"):
            lines.append(f"define x{name} = two ( plus {name} 1 ) ( size {name} )")
            faults["x" + name] = ("stuck", name)
        lines.append("define xlate = plus late 1")
        faults["xlate"] = ("unfit", (0, 1))
        self.definitions(lines, **faults)

    def test_stuck(self):
        lines = ["define a = two c b", "define b = 1 2", "define c = two 1 b", "define d = given b . two b 1", "define e = a"]
        self.definitions(lines, a=("stuck", "c"), b=("unfit", (0,)), c=("stuck", "b"), e=("stuck", "a"))
        self.definitions(["define a = given x . plus ( a x ) b", "define b = 1 2"], a=("stuck", "b"), b=("unfit", (0,)))
        # Its own fault does not make a definition stuck.
        self.definitions(["define a = plus a yes"], a=("unfit", (1,)))

    def test_told_ones_that_use_one_another(self):
        self.definitions(["define a : whole = b", "define b : whole = a"])
        lines = ["define a : whole = b", "define b : whole = plus a c", "define c = 1 2"]
        self.definitions(lines, a=("stuck", "b"), b=("stuck", "a"), c=("unfit", (0,)))
        # Uses of a told definition go by its scheme, also if it has a fault.
        lines = ["define a : whole = yes", "define b = plus a 1", "define c = size a"]
        self.definitions(lines, a=("unfit", ()), b=("stuck", "a"), c=("unfit", (1,)))

    def test_in_their_order(self):
        lines = ["define z = 1 2", "define a = alike plus", "define m = z"]
        self.definitions(lines, z=("unfit", (0,)), a=("lacking", (1,)), m=("stuck", "z"))


class TestRings(FaultCase):
    def test_the_place_in_one_of_them(self):
        # The places are gone through definition by definition, their names ascending.
        lines = ["define z = given x . plus ( a x ) 1", "define a = given x . match z x | yes = yes | no = no end"]
        self.definitions(lines, z=("unfit", (0, 0, 0)), a=("stuck", "z"))
        lines = ["define a = given x . plus ( z x ) 1", "define z = given x . match a x | yes = yes | no = no end"]
        self.definitions(lines, a=("stuck", "z"), z=("unfit", (0, 0, 0)))

    def test_all_others_are_stuck(self):
        lines = [
            "define a = given x . b x",
            "define b = given x . c x",
            "define c = given x . plus ( a x ) yes",
            "define d = given x . b x",
        ]
        self.definitions(lines, a=("stuck", "b"), b=("stuck", "c"), c=("unfit", (0, 1)), d=("stuck", "b"))

    def test_others_that_use_a_bad_ring(self):
        lines = [
            "define a = given x . plus ( b x ) yes",
            "define b = given x . a x",
            "define c = two ( plus b 1 ) ( size b )",
        ]
        self.definitions(lines, a=("unfit", (0, 1)), b=("stuck", "a"), c=("stuck", "b"))

    def test_lacking(self):
        lines = ["define b = given x . alike x ( a x )", "define a = given x . b plus"]
        self.definitions(lines, b=("lacking", (0, 0, 1)), a=("stuck", "b"))
        lines = ["define b = given x . match alike x x | yes = 1 | no = a x end", "define a = given x . b plus"]
        self.definitions(lines, b=("lacking", (0, 0, 0, 1)), a=("stuck", "b"))
        lines = ["define a = given x . match alike x x | yes = 1 | no = b x end", "define b = given x . a plus"]
        self.definitions(lines, a=("stuck", "b"), b=("lacking", (0, 1)))

    def test_told_ones_are_no_part(self):
        lines = ["define a = given x . plus ( b x ) yes", "define b : whole -> whole = given x . a x"]
        self.definitions(lines, a=("unfit", (0, 1)), b=("stuck", "a"))

    def test_one_kind_within_a_ring(self):
        lines = ["define a = given x . two ( b 1 ) x", "define b = given x . match a \"a\" | two p q = x end"]
        self.definitions(lines)
        lines = ["define a = given x . plus ( b 1 ) ( b yes )", "define b = given x . a x"]
        self.definitions(lines, a=("unfit", (0, 1, 1)), b=("stuck", "a"))


class TestTold(FaultCase):
    def test_as_general_as_the_term(self):
        self.definitions(["define f : 'a -> 'a = given x . x"])
        self.definitions(["define f : 'z -> truth if same 'z = given x . alike x x"])

    def test_less_general(self):
        self.definitions(["define f : whole -> whole = given x . x", "define g = f 1"])
        self.definitions(["define f : list 'a -> truth if same 'a = given x . alike x x"])
        self.definitions(["define f : 'a -> truth if order 'a = given x . alike x x"])
        self.definitions(["define f : 'a -> 'a if words 'a = given x . x"])
        self.definitions(["define f : whole -> truth = given x . alike x x"])

    def test_too_general(self):
        self.definitions(["define f : 'a -> 'b = given x . x"], f=("unfit", (0,)))
        self.definitions(["define f : 'a -> 'a = given x . plus x 1"], f=("unfit", (0, 0, 0)))
        self.definitions(["define f : 'a = 1"], f=("unfit", ()))
        self.definitions(["define f : 'a -> 'b = 1"], f=("unfit", ()))
        self.definitions(["define f : 'a = f"])

    def test_needs_that_are_not_told(self):
        self.definitions(["define f : 'a -> truth = given x . alike x x"], f=("lacking", (0, 0, 1)))
        self.definitions(["define f : 'a -> truth if same 'a = given x . atmost x x"], f=("lacking", (0, 0, 1)))
        self.definitions(["define f : 'a -> truth = given x . alike ( cons x nil ) nil"], f=("lacking", (0, 0, 1, 0, 1)))
        self.definitions(["define f : 'a -> 'b -> truth if same 'b = given x . given y . alike x x"], f=("lacking", (0, 0, 0, 1)))

    def test_needs_that_cases_and_others_meet(self):
        self.definitions(["define f : 'a -> truth if same 'a = given x . alike ( cons x nil ) nil"])
        self.definitions(["define f : 'a -> truth if order 'a = given x . alike ( cons x nil ) nil"])
        self.definitions(["define f : 'a -> truth if same ( list 'a ) = given x . alike ( cons x nil ) nil"])
        self.definitions(["define f : 'a -> truth if same ( list 'a ) = given x . alike x x"])

    def test_unclear(self):
        self.definitions(["define f : truth = alike nil nil"], f=("unclear", "same"))
        self.definitions(["define f : 'a -> truth if same 'a = given x . alike nil nil"], f=("unclear", "same"))

    def test_settling(self):
        self.definitions(["define f : 'a -> 'b if turns 'a 'b = given x . turn x"])
        self.definitions(["define f : 'a -> whole if turns 'a 'b , words 'b = given x . size ( shown ( turn x ) )"])
        self.definitions(["define f : 'a -> whole if turns 'a 'b = given x . size ( shown ( turn x ) )"], f=("lacking", (0, 1, 1, 1)))
        self.definitions(["define f : 'a -> 'c -> 'c if turns 'a 'b = given x . given y . turn x"], f=("lacking", (0, 0, 0)))

    def test_uses_of_itself(self):
        lines = ["define f : 'a -> whole if same 'a = given x . match alike x x | yes = f ( two x x ) | no = f 1 end"]
        self.faults_are(lines + ["derive spair : same pair"])
        self.definitions(lines, f=("lacking", (0, 1, 1, 0, 0)))


class TestMembers(FaultCase):
    def cases(self, lines, *faults):
        self.faults_are(lines, *faults)

    def test_members_of_cases(self):
        where = ("case", "zerol", "zero")
        for needs, term, fault in (
            ("", "nil", None),
            ("", "1", ("unfit", ())),
            ("", "cons zero nil", ("lacking", (0, 1))),
            (" if zeros 'a", "cons zero nil", None),
            (" if zeros 'a", "cons 1 nil", ("unfit", (0, 1))),
            ("", "match alike nil nil | yes = nil | no = nil end", ("unclear", "same")),
        ):
            lines = [f"case zerol : zeros ( list 'a ){needs}", f"as zero = {term}"]
            self.cases(lines, *([(where, fault)] if fault else []))
            self.assertEqual(based(*lines).fault(where), fault)

    def test_a_member_may_use_itself(self):
        self.cases(["case zerol : zeros ( list 'a )", "as zero = zero"])
        self.cases(["case zerol : zeros ( list 'a )", "as zero = zero zero"], (("case", "zerol", "zero"), ("lacking", (0,))))

    def test_other_variables(self):
        lines = ["role swaps 'f", "member swap : 'f 'a 'b -> 'f 'b 'a if same 'a"]
        case = ["case swapp : swaps pair", "as swap = given x . match x | two p q = {} end"]
        self.cases(lines + [case[0], case[1].format("two q p")])
        self.cases(lines + [case[0], case[1].format("two p q")], (("case", "swapp", "swap"), ("unfit", (0, 1, 0, 1))))
        self.cases(lines + [case[0], case[1].format("match alike p p | yes = two q p | no = two q p end")])
        wrong = case[1].format("match alike q q | yes = two q p | no = two q p end")
        self.cases(lines + [case[0], wrong], (("case", "swapp", "swap"), ("lacking", (0, 1, 0, 0, 1))))

    def test_defaults(self):
        where = ("role", "likes", "like")
        role = "role likes 'a\nmember like : 'a -> 'b -> truth if same 'b = "
        self.cases([role + "given x . given y . alike y y"])
        self.cases([role + "given x . given y . like x y"])
        self.cases([role + "given x . given y . alike x x"], (where, ("lacking", (0, 0, 0, 1))))
        self.cases([role + "given x . given y . y"], (where, ("unfit", (0, 0))))
        self.cases([role + "given x . given y . alike nil nil"], (where, ("unclear", "same")))

    def test_given_needs_that_can_not_be_improved(self):
        lines = ["role goes 'a", "member go : 'a -> 'b if turns 'a 'b", "case goesw : goes whole", "as go = given x . turn x"]
        where = ("case", "goesw", "go")
        self.cases(lines, (where, ("unfit", ())))
        lines[-1] = "as go = given x . go x"
        self.cases(lines, (where, ("unfit", ())))
        lines[2] = "case goesw : goes ( list 'a )"
        lines[-1] = "as go = given x . turn x"
        self.cases(lines)
        lines = ["role goes 'a", "member go : 'f -> 'a -> 'b if turns 'a 'b", "case goesl : goes ( pair 'a 'b ) if turns 'a 'b"]
        self.cases(lines + ["as go = given f . given x . turn x"])
        lines = ["role goes 'f", "member go : 'f 'a 'b -> 'c if turns 'a 'c", "case goesp : goes pair"]
        self.cases(lines + ["as go = given x . match x | two p q = turn p end"])

    def test_stuck(self):
        lines = ["define bad = 1 2", "case zerol : zeros ( list 'a )", "as zero = cons bad nil"]
        self.cases(lines, (("definition", "bad"), ("unfit", (0,))), (("case", "zerol", "zero"), ("stuck", "bad")))

    def test_in_the_order_of_the_program(self):
        lines = [
            "case zerol : zeros ( list 'a )",
            "as blank = given x . 1",
            "as zero = 1",
            "role likes 'a",
            "member like : 'a -> truth = given x . 1",
            "member more : 'a -> truth = given x . yes",
            "member most : 'a -> truth = 1",
            "define g = f",
            "case zeroi : zeros ( idle 'a )",
            "as zero = 1",
            "define f = 1 2",
            "role last 'a",
            "member lastm : 'a -> truth = yes",
        ]
        self.cases(
            lines,
            (("definition", "g"), ("stuck", "f")),
            (("definition", "f"), ("unfit", (0,))),
            (("role", "likes", "like"), ("unfit", (0,))),
            (("role", "likes", "most"), ("unfit", ())),
            (("role", "last", "lastm"), ("unfit", ())),
            (("case", "zerol", "blank"), ("unfit", (0,))),
            (("case", "zerol", "zero"), ("unfit", ())),
            (("case", "zeroi", "zero"), ("unfit", ())),
        )


class TestWheres(unittest.TestCase):
    def test_of_each_sort(self):
        found = based("define f = 1")
        for where in (
            ("definition", "f"),
            ("role", "zeros", "blank"),
            ("case", "zerot", "blank"),
            ("case", "zerot", "zero"),
            ("case", "slist", "alike"),
            ("case", "wlist", "shown"),
            ("case", "swhole", "alike"),
            ("case", "otruth", "atmost"),
            ("case", "wtext", "shown"),
        ):
            self.assertIsNone(found.fault(where), where)

    def test_any_other_value(self):
        found = based("define f = 1")
        deep = ()
        for _ in range(245):
            deep = (deep,)
        for value in (
            None, True, 0, "f", "definition", (), ("definition",), ("definition", "g"), ("definition", "nil"), ("definition", "f", "f"),
            ["definition", "f"], ("Definition", "f"), ("definition", None), ("definition", ["f"]), ("definition", ("f",)),
            ("role", "zeros"), ("role", "zeros", "zero"), ("role", "zeros", "nothing"), ("role", "turns", "turn"), ("role", "none", "zero"),
            ("role", "same", "alike"), ("role", "zeros", ["blank"]), ("case", "zerow", "blank"), ("case", "zerow", "none"),
            ("case", "none", "zero"), ("case", "zeros", "zero"), ("case", "slist", "atmost"), ("case", "slist"), ("case", "slist", "alike", 0),
            ("case", {}, "zero"), ("term", "zeros", "blank"), ("term", "zerot", "blank"), ("", "f"), deep, ("case", deep, deep), {}, found, ("definition", found),
        ):
            with self.assertRaises(UnknownName) as caught:
                found.fault(value)
            self.assertIs(caught.exception.value, value)


class TestSchemes(unittest.TestCase):
    def tells(self, found, name, text):
        scheme = found.scheme(name)
        told = read_scheme(text)
        self.assertEqual((scheme.kind, scheme.needs, scheme.variables), (told.kind, told.needs, told.variables))

    def test_names_and_order_of_the_declaration(self):
        found = program(
            "data duo 'y 'x = both 'x 'y | left 'y | neither | wrap ( 'x -> 'y ) ( duo 'x 'y )",
            "role r 'q 'p above same 'q settles 0 1",
            "member m : 'z -> 'q -> 'p if words 'z , order 'q , same 'z",
            "member n : 'q -> 'p",
            "define f : 'k -> 'j -> truth if same 'j , same 'k = given x . given y . alike y y",
        )
        self.tells(found, "both", "'x -> 'y -> duo 'y 'x")
        self.tells(found, "left", "'y -> duo 'y 'x")
        self.tells(found, "neither", "duo 'y 'x")
        self.tells(found, "wrap", "( 'x -> 'y ) -> duo 'x 'y -> duo 'y 'x")
        self.tells(found, "m", "'z -> 'q -> 'p if r 'q 'p , words 'z , order 'q , same 'z")
        self.tells(found, "n", "'q -> 'p if r 'q 'p")
        self.tells(found, "f", "'k -> 'j -> truth if same 'j , same 'k")
        self.tells(found, "plus", "whole -> whole -> whole")
        self.tells(found, "spell", "whole -> text")
        self.tells(found, "no", "truth")
        self.tells(found, "alike", "'a -> 'a -> truth if same 'a")
        self.tells(found, "atmost", "'a -> 'a -> truth if order 'a")
        self.tells(found, "shown", "'a -> text if words 'a")

    def test_definitions(self):
        found = based("define f = given x . given y . two ( alike x x ) ( shown y )")
        self.assertEqual(found.scheme("f"), read_scheme("'a -> 'b -> pair truth text if same 'a , words 'b"))

    def test_other_values(self):
        found = based("define f = 1", "define bad = 1 2")
        for value in ("g", "list", "same", "slist", "definition", "", None, 0, True, ("f",), ["f"], {}, ("definition", "f"), found):
            with self.assertRaises(UnknownName) as caught:
                found.scheme(value)
            self.assertIs(caught.exception.value, value)
        with self.assertRaises(Faulty) as caught:
            found.scheme("bad")
        self.assertEqual(caught.exception.where, ("definition", "bad"))
        self.assertEqual(found.scheme("f"), read_scheme("whole"))

    def test_with_more(self):
        found = based("define f = 1")
        more = found.with_more(Definition("g", read_term("plus f yes")), Data("box", ("a",), [("box", (var("a"),))]))
        self.assertEqual(more.faults, ((("definition", "g"), ("unfit", (1,))),))
        self.assertEqual(more.scheme("box"), read_scheme("'a -> box 'a"))
        self.assertTrue(found.is_right)
        self.assertFalse(more.is_right)
        self.assertEqual(Program.of(more.declarations), more)


class TestFaultOf(unittest.TestCase):
    def test_terms(self):
        found = based("define f = 1", "define bad = 1 2", "define late = bad", "define id = given x . x")
        for text, fault in (
            ("1", None),
            ("_", None),
            ("given x . alike x x", None),
            ("f", None),
            ("id id", None),
            ("plus f yes", ("unfit", (1,))),
            ("alike id", ("lacking", (1,))),
            ("alike nil nil", ("unclear", "same")),
            ("plus bad 1", ("stuck", "bad")),
            ("two late bad", ("stuck", "late")),
            ("given bad . bad", None),
        ):
            term = read_term(text)
            self.assertEqual(fault_of(found, term), fault, text)
            self.assertEqual(fault_of(program=found, term=term), fault)
            if fault is None:
                self.assertIsInstance(scheme_of(program=found, term=term), Scheme)
            else:
                with self.assertRaises(Wrong) as caught:
                    scheme_of(found, term)
                self.assertEqual(caught.exception.found, fault)

    def test_picks(self):
        lines = ["picks whole -> whole , text , whole", *BASE]
        found = program(*lines, "define f = alike nil nil", "define g : text = shown zero")
        self.assertTrue(found.is_right)
        self.assertIsNone(fault_of(found, read_term("alike nil nil")))
        self.assertEqual(fault_of(found, read_term("shown ( turn zero )")), ("unclear", "turns"))
        self.assertEqual(fault_of(based(), read_term("alike nil nil")), ("unclear", "same"))
        # Whole meets all needs of the variable, text only one of them.
        found = program("picks text , truth", *BASE)
        self.assertIsNone(fault_of(found, read_term("( given z . two ( alike z z ) ( alike z zero ) ) zero")))
        self.assertEqual(fault_of(found, read_term("given z . two z ( turn zero )")), ("unclear", "turns"))


if __name__ == "__main__":
    unittest.main()
