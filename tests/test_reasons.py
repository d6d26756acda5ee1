"""Reasons: points 84 and 85."""

import unittest

from leastneeds.errors import Faulty, UnknownName
from leastneeds.kinds import con, var
from leastneeds.program import Program
from leastneeds.reasons import is_why, reasons, why
from leastneeds.terms import part_at, places

from samples import A, B, TEXT, WHOLE, listed

BASE = """data list 'a = nil | cons 'a ( list 'a )
data pair 'a 'b = two 'a 'b
derive slist : same list
derive olist : order list
derive spair : same pair
derive opair : order pair
role zeros 'a
member zero : 'a
member blank : 'b -> 'a -> text if words 'b , same 'b = given x . given y . shown x
case zerow : zeros whole
as zero = 0
role turns 'a 'b settles 0 1
member turn : 'a -> 'b
case turnw : turns whole text
as turn = spell"""

SAME = ("same", A)
ORDER = ("order", A)
WORDS = ("words", A)


def based(*lines):
    return Program.read("\n".join((BASE,) + lines))


def place_of(program, name, word, number=0):
    """The place of the use of a name in the term of a definition, the one with this number."""
    term = program.definition_named(name).term
    return [place for place in places(term) if part_at(term, place) == ("name", word)][number]


class ReasonCase(unittest.TestCase):
    def tells(self, program, name, need, *uses):
        """The reasons are these uses, each told by a definition, a name and the number of its use there."""
        self.assertEqual(program.faults, ())
        told = tuple(sorted([(use[0], place_of(program, *use)) for use in uses]))
        self.assertEqual(reasons(program, name, need), told)

    def follows(self, program, name, need, *uses):
        """A shortest chain has these uses."""
        told = tuple([(use[0], place_of(program, *use)) for use in uses])
        self.assertEqual(why(program, name, need), told)
        self.assertIs(is_why(program, name, need, told), True)


class TestReasons(ReasonCase):
    def test_uses_of_members(self):
        program = based("define it = given x . given y . match alike x y | no = alike y x | yes = no end")
        self.tells(program, "it", SAME, ("it", "alike", 0), ("it", "alike", 1))
        self.tells(program, "it", ORDER)
        self.tells(program, "it", ("same", B))
        self.tells(program, "it", ("same", WHOLE))
        self.tells(program, "it", ("same", listed(A)))

    def test_uses_of_definitions(self):
        program = based("define eq = given x . alike x x", "define it = given x . eq ( cons x nil )", "define at = eq 1")
        self.tells(program, "it", SAME, ("it", "eq"))
        self.tells(program, "it", ("same", listed(A)))
        self.tells(program, "at", ("same", WHOLE))
        self.tells(program, "eq", SAME, ("eq", "alike"))

    def test_names_that_hide(self):
        program = based("define eq = given x . alike x x", "define it = given eq . given x . match eq x | no = no | yes = alike x x end")
        self.tells(program, "it", ("same", var("a")), ("it", "alike"))

    def test_needs_together_with_others(self):
        # What one use asks has same 'a above order 'a, so this use does not ask it.
        program = based(
            "define big : 'a -> 'a -> truth if order 'a , same 'a = given x . given y . atmost x y",
            "define it = given x . match big x x | no = alike x x | yes = no end",
            "define at = given x . match alike x x | no = atmost x x | yes = no end",
        )
        self.tells(program, "it", ORDER, ("it", "big"))
        self.tells(program, "it", SAME, ("it", "alike"))
        self.assertEqual(program.scheme("at").needs, (ORDER,))
        self.tells(program, "at", SAME, ("at", "alike"))
        self.tells(program, "at", ORDER, ("at", "atmost"))

    def test_needs_that_cases_bring_down(self):
        program = based(
            "define it = given x . given y . alike ( two x ( cons y nil ) ) ( two x nil )",
            "define at = given x . atmost ( cons x nil ) nil",
            "define by = alike ( two 1 yes ) ( two 2 no )",
        )
        self.tells(program, "it", SAME, ("it", "alike"))
        self.tells(program, "it", ("same", B), ("it", "alike"))
        self.tells(program, "at", ORDER, ("at", "atmost"))
        self.tells(program, "at", ("order", listed(A)))
        self.tells(program, "by", ("same", WHOLE))

    def test_own_needs_of_members(self):
        program = based("define it = given x . given y . blank x y")
        self.assertEqual(len(program.scheme("it").needs), 3)
        for need in program.scheme("it").needs:
            self.tells(program, "it", need, ("it", "blank"))
        program = based("define it = given x . blank x 1")
        self.tells(program, "it", WORDS, ("it", "blank"))
        self.tells(program, "it", ("zeros", WHOLE))

    def test_settled_kinds(self):
        program = based("define it = given x . size ( turn x )", "define at = given x . turn x")
        self.tells(program, "it", ("turns", A, TEXT), ("it", "turn"))
        self.tells(program, "at", ("turns", A, B), ("at", "turn"))
        self.tells(program, "at", ("turns", A, TEXT))

    def test_rings(self):
        program = based(
            "define one = given x . given n . match equal n 0 | no = other x ( minus n 1 ) | yes = alike x x end",
            "define other = given x . given n . match atmost x x | no = one x n | yes = third x n end",
            "define third : 'a -> whole -> truth if order 'a , words 'a = given x . given n . one x n",
        )
        # A told one is no part of the ring.
        for name in ("one", "other"):
            self.tells(program, name, SAME, ("one", "alike"))
            self.tells(program, name, ORDER, ("other", "atmost"), ("other", "third"))
            self.tells(program, name, WORDS, ("other", "third"))
        self.tells(program, "third", ORDER, ("third", "one"))
        self.tells(program, "third", WORDS, ("third", "one"))
        program = based(
            "define one = given x . given n . match equal n 0 | no = other n x | yes = alike x x end",
            "define other = given n . given x . match atmost x x | no = one x n | yes = third x n end",
            "define third = given x . given n . one x n",
        )
        # The needs are told over the variables of the scheme of the name that is asked for.
        for name in ("one", "other", "third"):
            self.assertEqual(program.scheme(name).needs, (ORDER,))
            self.tells(program, name, ORDER, ("other", "atmost"))
            self.tells(program, name, SAME, ("one", "alike"))

    def test_told_ones_alone(self):
        program = based(
            "define one : 'a -> truth if same 'a , words 'a = given x . match alike x x | no = one x | yes = other x end",
            "define other : 'a -> truth if same 'a = given x . inner x",
            "define inner = given x . alike x x",
        )
        # In its own term a told one asks as any other one.
        self.tells(program, "one", SAME, ("one", "alike"), ("one", "one"), ("one", "other"))
        self.tells(program, "one", WORDS, ("one", "one"))
        self.tells(program, "other", SAME, ("other", "inner"))
        self.tells(program, "other", WORDS)

    def test_given_by_the_told_scheme_alone(self):
        program = based("define it : 'a -> 'a -> truth if same 'a , words 'a = alike", "define at : 'b -> truth if order 'b = given x . alike x x")
        self.tells(program, "it", SAME, ("it", "alike"))
        self.tells(program, "it", WORDS)
        self.tells(program, "at", ("order", B))
        self.tells(program, "at", ("same", B), ("at", "alike"))
        self.assertIsNone(why(program, "it", WORDS))
        self.assertIsNone(why(program, "at", ("order", B)))

    def test_each_need_that_is_not_told_has_some(self):
        program = based(
            "define aa = given x . given y . match alike x x | no = atmost y y | yes = alike ( two x y ) ( two x y ) end",
            "define bb = given x . aa ( cons x nil ) x",
            "define cc = given x . given f . blank ( bb x ) ( turn f )",
            "define dd = given x . given f . let p = cc x in p f",
        )
        for name in ("aa", "bb", "cc", "dd"):
            for need in program.scheme(name).needs:
                self.assertNotEqual(reasons(program, name, need), ())
                self.assertIsNotNone(why(program, name, need))


class TestLets(ReasonCase):
    def test_several_instances(self):
        term = "given x . given y . let p = given z . alike z z in two ( p x ) ( two ( p ( cons y nil ) ) ( p 1 ) )"
        program = based(f"define it = {term}")
        for need in (SAME, ("same", B)):
            self.tells(program, "it", need, ("it", "alike"))
        self.tells(program, "it", ("same", WHOLE))
        self.assertEqual(reasons(program, "it", SAME), (("it", (0, 0, 0, 0, 0, 0)),))

    def test_none(self):
        program = based("define it = given x . let p = given z . alike x z in 1", "define at = given x . let p = given z . alike z z in p 1")
        self.assertEqual(program.scheme("it").needs, ())
        self.tells(program, "it", SAME)
        self.tells(program, "at", SAME)

    def test_by_way_of_others(self):
        # Of a name that is used by an unused one alone there is no instance.
        program = based("define it = given x . let p = given z . alike z z and q = given z . p ( cons z x ) in 1")
        self.tells(program, "it", SAME)
        program = based("define it = given x . let p = given z . alike z z and q = given z . p ( cons z nil ) in q x")
        self.tells(program, "it", SAME, ("it", "alike"))
        program = based("define it = given x . let p = given z . match alike z z | no = q z | yes = yes end and q = given z . p z in q x")
        self.tells(program, "it", SAME, ("it", "alike"))

    def test_lets_within_lets(self):
        term = "given x . let p = given y . let q = given z . alike ( two y z ) ( two y z ) in two ( q 1 ) ( q x ) in two ( p yes ) ( p x )"
        program = based(f"define it = {term}")
        self.tells(program, "it", SAME, ("it", "alike"))
        term = "given x . given w . let p = given y . let q = given z . alike ( two y z ) ( two y z ) in q y in p ( cons w nil )"
        program = based(f"define it = {term}")
        self.tells(program, "it", ("same", B), ("it", "alike"))
        self.tells(program, "it", SAME)

    def test_uses_of_lets_ask_nothing(self):
        program = based("define eq = given x . alike x x", "define it = given x . let p = eq in let q = p in two ( q x ) ( p x )")
        self.tells(program, "it", SAME, ("it", "eq"))

    def test_places_in_lets_of_several_names(self):
        term = "given x . let q = given z . p z and p = given z . alike z z and r = atmost x in two ( q x ) ( r x )"
        program = based(f"define it = {term}")
        self.tells(program, "it", SAME, ("it", "alike"))
        self.assertEqual(reasons(program, "it", SAME), (("it", (0, 1, 0, 0, 0)),))
        self.assertEqual(reasons(program, "it", ORDER), (("it", (0, 2, 0)),))

    def test_instances_of_definitions(self):
        program = based(
            "define big : 'a -> 'b -> truth if order 'a , same 'b = given x . given y . alike y y",
            "define it = given x . given y . let p = given z . big z in two ( p x y ) ( p y 1 )",
        )
        self.tells(program, "it", ORDER, ("it", "big"))
        self.tells(program, "it", ("order", B), ("it", "big"))
        self.tells(program, "it", ("same", B), ("it", "big"))
        self.tells(program, "it", SAME)


class TestWhy(ReasonCase):
    def test_one_use(self):
        program = based("define it = given x . alike x x", "define at = given x . match it x | no = alike x x | yes = no end")
        self.follows(program, "it", SAME, ("it", "alike"))
        self.follows(program, "at", SAME, ("at", "alike"))

    def test_chains(self):
        program = based(
            "define aa = given x . alike x x",
            "define bb = given x . aa ( cons x nil )",
            "define cc = given x . given y . bb ( two x y )",
        )
        self.follows(program, "bb", SAME, ("bb", "aa"), ("aa", "alike"))
        for need in (SAME, ("same", B)):
            self.follows(program, "cc", need, ("cc", "bb"), ("bb", "aa"), ("aa", "alike"))

    def test_told_ones_end_them(self):
        program = based(
            "define aa : 'a -> truth if same 'a = given x . alike x x",
            "define bb = given x . aa x",
            "define cc : 'a -> truth if same 'a = given x . bb x",
            "define dd = given x . cc x",
        )
        self.follows(program, "dd", SAME, ("dd", "cc"))
        self.follows(program, "cc", SAME, ("cc", "bb"), ("bb", "aa"))
        long = (("dd", (0, 0)), ("cc", (0, 0)), ("bb", (0, 0)))
        self.assertFalse(is_why(program, "dd", SAME, long))

    def test_through_rings(self):
        program = based(
            "define one = given x . given n . match equal n 0 | no = other x ( minus n 1 ) | yes = no end",
            "define other = given x . given n . match atmost x x | no = one x n | yes = no end",
            "define it = given x . one ( cons x nil ) 1",
        )
        self.follows(program, "one", ORDER, ("other", "atmost"))
        self.follows(program, "it", ORDER, ("it", "one"), ("other", "atmost"))

    def test_the_shortest_one(self):
        program = based(
            "define aa = given x . alike x x",
            "define bb = given x . aa x",
            "define cc = given x . match bb x | no = bb x | yes = aa x end",
        )
        self.follows(program, "cc", SAME, ("cc", "aa"), ("aa", "alike"))
        long = (("cc", place_of(program, "cc", "bb", 1)), ("bb", (0, 0)), ("aa", (0, 0, 0)))
        self.assertTrue(is_why(program, "cc", SAME, long))
        first = (("cc", place_of(program, "cc", "bb", 0)),) + long[1:]
        self.assertTrue(is_why(program, "cc", SAME, first))

    def test_by_the_right_need(self):
        # At the kinds of the use the one need of bb comes down to order 'b alone, the other one to same 'a.
        program = based(
            "define aa = given x . given y . match alike x x | no = atmost y y | yes = no end",
            "define bb = given x . given y . aa x ( cons y nil )",
        )
        self.follows(program, "bb", SAME, ("bb", "aa"), ("aa", "alike"))
        self.follows(program, "bb", ("order", B), ("bb", "aa"), ("aa", "atmost"))
        here = ("bb", place_of(program, "bb", "aa"))
        alike = ("aa", place_of(program, "aa", "alike"))
        atmost = ("aa", place_of(program, "aa", "atmost"))
        self.assertTrue(is_why(program, "bb", SAME, (here, alike)))
        self.assertFalse(is_why(program, "bb", SAME, (here, atmost)))
        self.assertFalse(is_why(program, "bb", ("order", B), (here, alike)))

    def test_by_an_instance_that_asks_the_need(self):
        program = based(
            "define aa = given x . given y . match alike x x | no = atmost y y | yes = no end",
            "define it = given x . let p = given z . aa z in two ( p x 1 ) ( p 1 )",
        )
        here = ("it", place_of(program, "it", "aa"))
        alike = ("aa", place_of(program, "aa", "alike"))
        atmost = ("aa", place_of(program, "aa", "atmost"))
        self.assertEqual(set(program.scheme("it").needs), {SAME, ("order", B)})
        self.assertTrue(is_why(program, "it", SAME, (here, alike)))
        self.assertFalse(is_why(program, "it", SAME, (here, atmost)))
        self.assertTrue(is_why(program, "it", ("order", B), (here, atmost)))

    def test_wrong_chains(self):
        program = based(
            "define aa = given x . alike x x",
            "define bb = given x . aa ( cons x nil )",
            "define cc = given x . bb x",
        )
        right = why(program, "cc", SAME)
        self.assertEqual(right, (("cc", (0, 0)), ("bb", (0, 0)), ("aa", (0, 0, 0))))
        last = right[2]
        for value in (
            right[:2],
            right[:1],
            right[1:],
            right[:1] + right[2:],
            right + (last,),
            right[:2] + (("aa", (0, 0)),),
            right[:2] + (("aa", (0, 0, 1)),),
            right[:2] + (("bb", (0, 0, 0)),),
            right[:2] + (("aa", (False, 0, 0)),),
            right[:2] + (("aa", [0, 0, 0]),),
            right[:2] + (["aa", (0, 0, 0)],),
            right[:2] + (("aa",),),
            right[:2] + (None,),
            list(right),
            (),
            None,
            True,
            7,
            "cc",
            {},
            program,
            last,
        ):
            self.assertIs(is_why(program, "cc", SAME, value), False, value)
        self.assertTrue(is_why(program, "cc", SAME, right))
        self.assertFalse(is_why(program, "cc", ORDER, right))
        self.assertFalse(is_why(program, "bb", SAME, right))
        self.assertFalse(is_why(program, "cc", ("same", listed(A)), right))

    def test_no_reasons(self):
        program = based("define it = given x . alike x x")
        for need in (ORDER, ("same", B), ("same", con("zzz")), ("zzz", A)):
            self.assertEqual(reasons(program, "it", need), ())
            self.assertIsNone(why(program, "it", need))
            self.assertIs(is_why(program, "it", need, (("it", (0, 0, 0)),)), False)

    def test_picks(self):
        program = Program.read("picks whole\n" + BASE + "\ndefine it = given x . match alike zero zero | no = no | yes = alike x x end")
        self.assertEqual(program.scheme("it").needs, (SAME,))
        self.tells(program, "it", SAME, ("it", "alike", 1))


class TestErrors(ReasonCase):
    def test_faulty_first(self):
        bad = based("define ok = given x . alike x x", "define it = plus yes", "define at = 1 2")
        for name in ("ok", "zzz", None):
            for call in (reasons, why):
                with self.assertRaises(Faulty) as caught:
                    call(bad, name, SAME)
                self.assertEqual(caught.exception.where, ("definition", "it"))
            with self.assertRaises(Faulty):
                is_why(bad, name, SAME, None)

    def test_any_value_as_a_name(self):
        program = based("define it = given x . alike x x")
        for name in ("zzz", "alike", "plus", "cons", "", None, True, 7, (), [], {}, ("definition", "it"), program):
            for call in (reasons, why):
                with self.assertRaises(UnknownName) as caught:
                    call(program, name, SAME)
                self.assertIs(caught.exception.value, name)
            with self.assertRaises(UnknownName) as caught:
                is_why(program, name, SAME, ())
            self.assertIs(caught.exception.value, name)

    def test_asked_again(self):
        program = based("define it = given x . alike x x")
        self.assertEqual(reasons(program=program, name="it", need=SAME), reasons(program, "it", SAME))
        self.assertEqual(why(program=program, name="it", need=SAME), why(program, "it", SAME))
        self.assertTrue(is_why(program=program, name="it", need=SAME, value=why(program, "it", SAME)))


if __name__ == "__main__":
    unittest.main()
