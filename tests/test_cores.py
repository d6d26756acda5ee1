"""Cuts, cores and mends: points 86 and 87."""

import itertools
import unittest

from leastneeds.cores import core, cut, is_bad, mends
from leastneeds.declarations import Case, Definition
from leastneeds.errors import NoCore, OutOfTerm, UnknownName
from leastneeds.groups import rings, uses
from leastneeds.kinds import to, var
from leastneeds.program import Program
from leastneeds.reader import read_term
from leastneeds.schemes import Scheme
from leastneeds.terms import part_at, places

BASE = """data list 'a = nil | cons 'a ( list 'a )
data pair 'a 'b = two 'a 'b
derive slist : same list
role odd 'a
member odds : 'a -> truth = given x . upto x x
member lot : 'b -> 'a -> truth if same 'b = given x . given y . no
case oddl : odd ( list 'a ) if same 'a
as odds = given x . alike ( given y . y ) x"""

# A use of it counts as a hole does: it has any kind, and asks nothing.
ANY = Definition("any", ("name", "any"), told=Scheme(var("a")))


def based(*lines):
    return Program.read("\n".join((BASE,) + lines))


def where(name):
    return ("definition", name)


def filled(term, holes):
    """The term with uses of `any` at places."""
    if () in holes:
        return ("name", "any")

    def inner(k, part):
        return filled(part, [place[1:] for place in holes if place[0] == k])

    if term[0] == "use":
        return ("use", inner(0, term[1]), inner(1, term[2]))
    if term[0] == "given":
        return ("given", term[1], inner(0, term[2]))
    if term[0] == "let":
        rows = [(name, inner(k, part)) for k, (name, part) in enumerate(term[1])]
        return ("let", tuple(rows), inner(len(rows), term[2]))
    if term[0] == "match":
        arms = [(name, names, inner(k + 1, part)) for k, (name, names, part) in enumerate(term[2])]
        return ("match", inner(0, term[1]), tuple(arms))
    return term


def told_bad(program, name, holes):
    """Whether a cut is bad, by the faults of a program in which it stands."""
    definition = program.definition_named(name)
    ring = [row for row in rings(program) if name in row][0]
    term = filled(definition.term, holes)
    # The ring stays that of the whole term.
    for other in uses(program, name):
        if other in ring:
            term = ("let", (("zz", ("name", other)),), term)
    rows = list(program.declarations)
    rows[rows.index(definition)] = Definition(name, term, told=definition.told)
    after = Program(*rows, ANY)
    return any((after.fault(where(other)) or ("",))[0] in ("unfit", "lacking") for other in ring)


def is_inside(place, other):
    return place[: len(other)] == other


def told_core(program, name):
    found = ()
    for place in places(program.definition_named(name).term):
        if not any(is_inside(place, hole) for hole in found) and told_bad(program, name, found + (place,)):
            found += (place,)
    return found


def told_mends(program, name, most):
    if not told_bad(program, name, ()):
        return [()]
    term = program.definition_named(name).term
    leaves = [place for place in places(term) if part_at(term, place)[0] in ("name", "whole", "text")]
    found = []
    for many in range(1, most + 1):
        for row in itertools.combinations(leaves, many):
            if not any(set(other) <= set(row) for other in found) and not told_bad(program, name, row):
                found.append(row)
    return found


BAD = (
    "plus yes",
    "given x . x x",
    "plus 1 ( join \"a\" 2 )",
    "given x . match x | no = 1 | yes = \"a\" end",
    "alike ( given x . x ) ( given y . y )",
    "given l . match l | nil = no | cons h t = plus h ( size h ) end",
    "let p = given x . plus x 1 in p ( p yes )",
    "let p = given x . alike x x in two ( p 1 ) ( p plus )",
    "given x . given y . two ( plus x y ) ( join x y )",
    "match cons 1 nil | nil = 2 | cons h t = join h t end",
    "1 2",
    "given f . two ( f 1 ) ( f \"a\" )",
    "lot 1 \"a\"",
    "odds ( cons plus nil )",
)


class CutCase(unittest.TestCase):
    def out(self, place, call, *given):
        with self.assertRaises(OutOfTerm) as caught:
            call(*given)
        self.assertIs(caught.exception.place, place)


class TestCuts(CutCase):
    def test_places(self):
        term = read_term("given x . match f x 1 | no = let p = x and q = p in q | yes = \"a\" end")
        self.assertEqual(cut(term), term)
        self.assertEqual(cut(term, ()), ("hole",))
        self.assertEqual(cut(term, (0,)), ("given", "x", ("hole",)))
        self.assertEqual(cut(term, (0, 0, 0)), read_term("given x . match _ 1 | no = let p = x and q = p in q | yes = \"a\" end"))
        self.assertEqual(cut(term, (0, 1, 1)), read_term("given x . match f x 1 | no = let p = x and q = _ in q | yes = \"a\" end"))
        told = read_term("given x . match f _ 1 | no = let p = _ and q = p in _ | yes = _ end")
        rows = [(0, 0, 0, 1), (0, 1, 0), (0, 1, 2), (0, 2)]
        for row in itertools.permutations(rows):
            self.assertEqual(cut(term, *row), told)
        self.assertEqual(cut(("hole",), ()), ("hole",))
        self.assertEqual(cut(told, (0, 0, 0, 1)), told)

    def test_out_of_the_term(self):
        term = read_term("f ( g 1 ) \"a\"")
        for place in ((2,), (0, 0, 0), (-1,), (True,), ("0",), (0, None), 0, None, "", [0], [], {}, ((0,),), BASE, ANY):
            self.out(place, cut, term, place)
            self.out(place, cut, term, (1,), place, None)
        self.assertEqual(cut(term, (0, 1, 0), (1,)), read_term("f ( _ 1 ) _"))

    def test_places_beside_others(self):
        term = read_term("f ( g 1 ) \"a\"")
        for one, other in (((0,), (0, 1)), ((0, 1), (0,)), ((1,), (1,)), ((0, 1), (0, 1, 1)), ((), (1,)), ((1,), ()), ((), ())):
            other = tuple(list(other))
            self.out(other, cut, term, one, other)
            self.out(other, cut, term, one, other, (7,))
        last = (0, 1)
        self.out(last, cut, term, (1,), (0, 1, 0), last)
        self.out(last, cut, term, (0, 0), (0, 1), last)
        # The first one that is wrong is told.
        wrong = (9,)
        self.out(wrong, cut, term, (1,), wrong, (1,))


class TestBad(CutCase):
    def test_terms(self):
        for text in BAD:
            program = based("define it = " + text)
            self.assertIn(program.fault(where("it"))[0], ("unfit", "lacking"))
            self.assertIs(is_bad(program, where("it")), True, text)
            self.assertIs(is_bad(program, where("it"), ()), False, text)
        for text in ("1", "given x . x", "alike", "plus 1"):
            self.assertIs(is_bad(based("define it = " + text), where("it")), False, text)

    def test_every_single_cut(self):
        for text in BAD:
            program = based("define it = " + text)
            for place in places(read_term(text)):
                self.assertIs(is_bad(program, where("it"), place), told_bad(program, "it", (place,)), (text, place))

    def test_places_in_any_order(self):
        program = based("define it = two ( plus yes 1 ) ( join 1 \"a\" )")
        one, other = (0, 1, 0, 1), (1, 0, 1)
        self.assertTrue(is_bad(program, where("it"), one))
        self.assertTrue(is_bad(program, where("it"), other))
        self.assertFalse(is_bad(program, where("it"), one, other))
        self.assertFalse(is_bad(program, where("it"), other, one))

    def test_faults_that_do_not_count(self):
        letters = "abcdefghijk"
        rows = [f"define d{one} = given x . d{other} ( two x x )" for one, other in zip(letters, letters[1:])]
        rows += ["define dk = given x . x", "role zeros 'a", "member zero : 'a", "case zerow : zeros whole", "as zero = 1"]
        rows += ["define un = alike zero zero", "define st = match un | no = 1 | yes = 2 end"]
        program = based(*rows)
        words = {row[0][1]: row[1][0] for row in program.faults if row[0][0] == "definition"}
        self.assertEqual((words["un"], words["st"]), ("unclear", "stuck"))
        self.assertEqual(sorted(set(words.values())), ["great", "stuck", "unclear"])
        for name in words:
            self.assertIs(is_bad(program, where(name)), False)
            self.assertEqual(mends(program, where(name), 2), [()])
            with self.assertRaises(NoCore) as caught:
                core(program, where(name))
            self.assertEqual(caught.exception.where, where(name))

    def test_uses_of_bad_definitions_count_as_holes(self):
        program = based("define it = plus yes", "define at = plus it it", "define by = plus ( it 1 ) no")
        self.assertFalse(is_bad(program, where("at")))
        self.assertTrue(is_bad(program, where("by")))
        self.assertEqual(core(program, where("by")), told_core(program, "by"))

    def test_nothing_is_picked(self):
        lines = ["role zeros 'a", "member zero : 'a", "case zerow : zeros whole", "as zero = 0", "define it = alike zero zero"]
        for head in ("", "picks whole\n"):
            program = Program.read(head + BASE + "\n" + "\n".join(lines))
            self.assertIs(is_bad(program, where("it")), False)


class TestCores(CutCase):
    def test_handwritten(self):
        for text, told in (
            ("plus yes", "plus yes"),
            ("plus yes 1", "plus yes _"),
            ("given x . x x", "given x . x x"),
            ("two 1 ( plus \"a\" 2 )", "_ ( plus \"a\" _ )"),
            ("alike ( given x . x ) ( given y . y )", "alike _ ( given y . _ )"),
            ("given x . match x | no = 1 | yes = \"a\" end", "given x . match _ | no = 1 | yes = \"a\" end"),
            ("let p = given x . plus x 1 in p yes", "let p = given x . plus x _ in p yes"),
            ("let p = 1 and q = plus yes 2 in p", "let p = _ and q = plus yes _ in _"),
        ):
            program = based("define it = " + text)
            found = cut(program.definition_named("it").term, *core(program, where("it")))
            self.assertEqual(found, read_term(told), text)

    def test_as_the_document_says(self):
        for text in BAD:
            program = based("define it = " + text)
            found = core(program, where("it"))
            self.assertEqual(found, told_core(program, "it"), text)
            self.assertTrue(is_bad(program, where("it"), *found))
            for place in places(program.definition_named("it").term):
                if not any(is_inside(place, hole) for hole in found):
                    others = [hole for hole in found if not is_inside(hole, place)]
                    self.assertFalse(is_bad(program, where("it"), *others, place))

    def test_in_rings(self):
        program = based("define one = given x . two ( other x ) ( plus x 1 )", "define other = given y . match one y | two a b = join y a end", "define third = one no")
        for name in ("one", "other"):
            self.assertTrue(is_bad(program, where(name)))
            self.assertEqual(core(program, where(name)), told_core(program, name))
            self.assertEqual(mends(program, where(name), 1), told_mends(program, name, 1))
        # The ring stays that of the whole term.
        self.assertTrue(is_bad(program, where("one"), (0, 0)))
        # The other one is bad by itself, so all of this one becomes a hole.
        program = based("define one = given x . two 1 ( other x )", "define other = given y . match one y | two a b = plus a yes end")
        self.assertEqual(core(program, where("one")), ((),))
        self.assertEqual(mends(program, where("one"), 2), [])

    def test_told_schemes(self):
        program = based("define it : 'a -> 'a -> truth = alike", "define at : whole = \"a\"", "define by : 'a -> 'a if same 'a = given x . 1")
        self.assertEqual(core(program, where("it")), ())
        self.assertEqual(mends(program, where("it"), 2), [((),)])
        self.assertEqual(core(program, where("at")), ())
        self.assertEqual(core(program, where("by")), ())
        self.assertEqual(mends(program, where("by"), 1), [((0,),)])

    def test_members_and_defaults(self):
        program = based()
        found = core(program, ("case", "oddl", "odds"))
        term = dict(program.case_named("oddl").members)["odds"]
        self.assertEqual(cut(term, *found), read_term("given x . alike ( given y . _ ) _"))
        self.assertEqual(mends(program, ("case", "oddl", "odds"), 2), [((0, 0, 0),)])
        found = core(program, ("role", "odd", "odds"))
        self.assertEqual(found, ((0, 0, 1),))
        self.assertEqual(mends(program, ("role", "odd", "odds"), 2), [((0, 0, 0),), ((0, 0, 1), (0, 1))])
        for row in (("role", "odd", "lot"), ("case", "swhole", "alike"), ("case", "slist", "alike")):
            self.assertFalse(is_bad(program, row))
            with self.assertRaises(NoCore) as caught:
                core(program, row)
            self.assertIs(caught.exception.where, row)


class TestMends(CutCase):
    def test_as_the_document_says(self):
        for text in BAD:
            program = based("define it = " + text)
            for most in (1, 2):
                found = mends(program, where("it"), most)
                self.assertIsInstance(found, list)
                self.assertEqual(found, told_mends(program, "it", most), (text, most))
            holes = core(program, where("it"))
            for row in found:
                self.assertTrue(any(not any(is_inside(place, hole) for hole in holes) for place in row))

    def test_one_and_two(self):
        program = based("define it = two ( plus yes 1 ) ( join 1 \"a\" )")
        self.assertEqual(mends(program, where("it"), 1), [])
        pairs = mends(program, where("it"), 2)
        self.assertEqual(pairs, [((0, 1, 0, 0), (1, 0, 0)), ((0, 1, 0, 0), (1, 0, 1)), ((0, 1, 0, 1), (1, 0, 0)), ((0, 1, 0, 1), (1, 0, 1))])

    def test_smaller_ones_ahead(self):
        program = based("define it = given f . two ( f 1 ) ( f \"a\" )")
        self.assertEqual(mends(program, where("it"), 1), [((0, 0, 1, 0),), ((0, 0, 1, 1),), ((0, 1, 0),), ((0, 1, 1),)])
        self.assertEqual(mends(program, where("it"), 2), mends(program, where("it"), 1))
        program = based("define it = given l . match l | nil = 0 | cons h t = plus ( size h ) ( size ( join h 1 ) ) end")
        found = mends(program, where("it"), 2)
        self.assertEqual(found, told_mends(program, "it", 2))
        self.assertEqual(found, sorted(found, key=lambda row: (len(row), row)))

    def test_nothing_to_mend(self):
        program = based("define it = given x . x")
        for most in (1, 2):
            self.assertEqual(mends(program, where("it"), most), [()])

    def test_large_terms(self):
        # A wrong leaf deep in the one part, and one in the other: 87 leaves, of which many pairs could mend it.
        one = "plus 1 ( " * 16 + "plus 1 yes" + " )" * 16
        other = "two 1 ( " * 17 + "size 1" + " )" * 17
        program = based("define it = two ( " + one + " ) ( " + other + " )")
        self.assertEqual(mends(program, where("it"), 1), [])
        found = mends(program, where("it"), 2)
        term = program.definition_named("it").term
        words = [tuple(part_at(term, place)[1] for place in row) for row in found]
        self.assertEqual(words, [("plus", "size"), ("plus", 1), ("yes", "size"), ("yes", 1)])
        self.assertEqual(found, sorted(found))


class TestErrors(CutCase):
    def test_unknown_ahead_of_places(self):
        program = based("define it = plus yes", "define ok = 1")
        for value in (where("zzz"), where("plus"), ("case", "oddl", "lot"), ("case", "zzz", "odds"), ("role", "same", "alike"), "it", None, True, 7, (), [], {}, ["definition", "it"], program):
            for call in (lambda: is_bad(program, value, (9,)), lambda: core(program, value), lambda: mends(program, value, 1)):
                with self.assertRaises(UnknownName) as caught:
                    call()
                self.assertIs(caught.exception.value, value)
        self.out(None, is_bad, program, where("it"), None)
        place = (0, 0)
        self.out(place, is_bad, program, where("it"), (0,), place)
        self.out(place, is_bad, program, where("ok"), place)
        with self.assertRaises(NoCore) as caught:
            core(program, where("ok"))
        self.assertEqual(caught.exception.where, where("ok"))

    def test_names_of_arguments(self):
        program = based("define it = plus yes")
        self.assertEqual(core(program=program, where=where("it")), ())
        self.assertEqual(mends(program=program, where=where("it"), most=1), [((0,),), ((1,),)])
        self.assertEqual(mends(program, where("it"), 1), mends(program, where("it"), 1))


if __name__ == "__main__":
    unittest.main()
