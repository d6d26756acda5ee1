"""Schemes of terms: points 51 to 54 and 56."""

import unittest

from leastneeds.errors import Wrong
from leastneeds.inferring import scheme_of
from leastneeds.program import Program
from leastneeds.reader import read_scheme, read_term

BASE = (
    "data list 'a = nil | cons 'a ( list 'a )",
    "data pair 'a 'b = two 'a 'b",
    "data box 'a = box 'a | none",
    "data hand 'f = hand",
    "data idle 'a = idle whole",
    "derive slist : same list",
    "derive spair : same pair",
    "derive olist : order list",
    "derive sidle : same idle",
    "role turns 'a 'b settles 0 1",
    "member turn : 'a -> 'b",
    "role loose 'a 'b",
    "member slip : 'a -> 'b",
    "role maps 'f",
    "member fmap : ( 'a -> 'b ) -> 'f 'a -> 'f 'b",
    "role zeros 'a",
    "member zero : 'a",
    "member plump : 'b -> 'a if words 'b",
    "case turnw : turns whole text",
    "as turn = spell",
    "case turnl : turns ( list 'a ) ( list ( pair 'a truth ) )",
    "as turn = given x . nil",
    "case turnb : turns ( box 'a ) whole",
    "as turn = given x . 0",
    "case loosel : loose ( list 'a ) ( list 'b )",
    "as slip = given x . nil",
    "case mapl : maps list",
    "as fmap = given f . given x . match x | nil = nil | cons h t = cons ( f h ) ( fmap f t ) end",
    "case mapp : maps ( pair 'c )",
    "as fmap = given f . given x . match x | two a b = two a ( f b ) end",
    "case zerow : zeros whole",
    "as zero = 0",
    "as plump = given x . size ( shown x )",
)


def program(*lines):
    return Program.read("\n".join(lines))


PROGRAM = program(*BASE)


class TermCase(unittest.TestCase):
    def tells(self, term, scheme, base=PROGRAM):
        found = scheme_of(base, read_term(term))
        self.assertEqual(found, read_scheme(scheme), f"{term}: {found.kind} {found.needs}")

    def wrong(self, term, fault, base=PROGRAM):
        with self.assertRaises(Wrong) as caught:
            scheme_of(base, read_term(term))
        self.assertEqual(caught.exception.found, fault)


class TestTerms(TermCase):
    def test_leaves(self):
        self.tells("7", "whole")
        self.tells('"a"', "text")
        self.tells("_", "'a")
        self.tells("plus", "whole -> whole -> whole")
        self.tells("nil", "list 'a")
        self.tells("cons", "'a -> list 'a -> list 'a")
        self.tells("alike", "'a -> 'a -> truth if same 'a")
        self.tells("hand", "hand 'a")

    def test_holes(self):
        self.tells("plus _ 1", "whole")
        self.tells("given x . plus x _", "whole -> whole")
        self.tells("given x . _", "'a -> 'b")
        self.tells("match _ | two a b = cons a b end", "list 'a")
        self.tells("cons _ ( cons 1 _ )", "list whole")
        self.tells("alike _", "'a -> truth if same 'a")
        self.tells("let x = _ in two ( plus x 1 ) ( size x )", "pair whole whole")

    def test_uses_and_functions(self):
        self.tells("given x . x", "'a -> 'a")
        self.tells("given f . given x . f ( f x )", "( 'a -> 'a ) -> 'a -> 'a")
        self.tells("given f . given g . given x . f ( g x )", "( 'b -> 'c ) -> ( 'a -> 'b ) -> 'a -> 'c")
        self.tells("given x . given y . given z . x z ( y z )", "( 'a -> 'b -> 'c ) -> ( 'a -> 'b ) -> 'a -> 'c")
        self.tells("( given x . cons x nil ) 1", "list whole")
        self.tells("given x . given x . x", "'a -> 'b -> 'b")

    def test_a_parameter_has_one_kind(self):
        self.wrong("given f . two ( f 1 ) ( f \"a\" )", ("unfit", (0, 1, 1)))
        self.tells("given f . two ( f 1 ) ( f 2 )", "( whole -> 'a ) -> pair 'a 'a")
        self.wrong("given x . x x", ("unfit", (0, 1)))

    def test_matches(self):
        self.tells("given x . match x | two a b = two b a end", "pair 'a 'b -> pair 'b 'a")
        self.tells("given x . match x | nil = 0 | cons h t = h end", "list whole -> whole")
        self.tells("given x . match x | none = x | box b = box b end", "box 'a -> box 'a")
        self.tells("match hand | hand = 1 end", "whole")
        self.wrong("match 1 | yes = 1 | no = 2 end", ("unfit", (0,)))
        self.wrong("match yes | yes = 1 | no = \"a\" end", ("unfit", (2,)))
        self.wrong("given x . match x | two a b = plus a ( join b a ) end", ("unfit", (0, 1, 1, 0, 0)))
        self.wrong("given x . match x | box b = plus b 1 | none = x end", ("unfit", (0, 2)))

    def test_constructors_with_the_names_of_variables(self):
        base = program(*BASE, "data a = mka", "data odd 'a 'b = odd 'a a 'b ( list b )", "data b = mkb")
        self.tells("odd 1", "a -> 'b -> list b -> odd whole 'b", base)
        self.tells("match odd 1 mka _ _ | odd p q r s = two q s end", "pair a ( list b )", base)
        self.tells("cons mka nil", "list a", base)

    def test_names_hide_what_is_declared(self):
        self.tells("given plus . plus 1", "( whole -> 'a ) -> 'a")
        self.tells("let nil = 1 in nil", "whole")
        self.tells("given x . match x | box none = none | none = 1 end", "box whole -> whole")
        self.tells("given alike . alike", "'a -> 'a")

    def test_members(self):
        self.tells("given x . fmap ( plus 1 ) x", "'f whole -> 'f whole if maps 'f")
        self.tells("fmap spell nil", "list text")
        self.tells("given x . fmap spell ( two x 1 )", "'a -> pair 'a text")
        self.tells("given x . plus 1 ( plump x )", "'a -> whole if words 'a")
        self.tells("plump", "'b -> 'a if zeros 'a , words 'b")
        self.tells("plump 1", "'a if zeros 'a")

    def test_needs_come_down(self):
        self.tells("given x . alike ( cons x nil )", "'a -> list 'a -> truth if same 'a")
        self.tells("given x . given y . alike ( two x y )", "'a -> 'b -> pair 'a 'b -> truth if same 'a , same 'b")
        self.tells("given x . match alike x x | no = no | yes = atmost x x end", "'a -> truth if order 'a")
        self.tells("given x . atmost ( cons x nil )", "'a -> list 'a -> truth if order 'a")
        self.tells("alike 1 2", "truth")
        self.tells("alike ( idle 1 ) ( idle 2 )", "truth")

    def test_improving(self):
        self.tells("turn 1", "text")
        self.tells("given x . turn ( plus x 1 )", "whole -> text")
        self.tells("turn nil", "list ( pair 'a truth )")
        self.tells("given x . turn ( cons x nil )", "'a -> list ( pair 'a truth )")
        self.tells("given x . two ( turn x ) ( turn x )", "'a -> pair 'b 'b if turns 'a 'b")
        self.tells("given x . two ( slip x ) ( slip x )", "'a -> pair 'b 'c if loose 'a 'b , loose 'a 'c")
        # The kind that turn 1 comes to have makes the need of alike one that is met.
        self.tells("alike ( turn 1 ) ( turn 2 )", "truth")
        self.tells("given x . plus ( turn x ) 1", "'a -> whole if turns 'a whole")
        # One need improves another one, which then fits a case.
        self.tells("given x . turn ( plus 1 ( turn x ) )", "'a -> text if turns 'a whole")
        self.tells("given x . size ( turn ( turn x ) )", "'a -> whole if turns 'a 'b , turns 'b text")
        self.wrong("given x . two ( plus 1 ( turn x ) ) ( size ( turn x ) )", ("unfit", (0, 1, 1, 1)))

    def test_same_settled_twice(self):
        self.wrong("plus 1 ( turn 1 )", ("unfit", (1, 1)))
        # No case has truth at the settled place, so this is lacking as soon as it is asked.
        self.wrong("match turn 1 | yes = 1 | no = 2 end", ("lacking", (0, 0)))
        self.wrong("given x . two ( plus ( turn x ) 1 ) ( join ( turn x ) \"\" )", ("unfit", (0, 1, 0, 1, 1)))


class TestLets(TermCase):
    def test_names_at_several_kinds(self):
        self.tells("let i = given x . x in two ( i 1 ) ( i \"a\" )", "pair whole text")
        self.tells("let i = given x . x in i i", "'a -> 'a")
        self.tells("let n = nil in two ( cons 1 n ) ( cons \"a\" n )", "pair ( list whole ) ( list text )")

    def test_variables_around_stay(self):
        self.tells("given x . let y = x in two y y", "'a -> pair 'a 'a")
        self.wrong("given f . let g = f in two ( g 1 ) ( g \"a\" )", ("unfit", (0, 1, 1, 1)))
        self.wrong("given x . let y = given z . cons z ( cons x nil ) in two ( y 1 ) ( y \"a\" )", ("unfit", (0, 1, 1, 1)))
        self.tells("given x . let y = given z . two x z in two ( y 1 ) ( y \"a\" )", "'a -> pair ( pair 'a whole ) ( pair 'a text )")
        self.wrong("given x . match x | box b = let c = b in two ( c 1 ) ( c \"a\" ) | none = _ end", ("unfit", (0, 1, 1, 1, 1)))
        self.wrong("match nil | nil = _ | cons h t = let c = h in two ( plus c 1 ) ( size c ) end", ("unfit", (2, 1, 1, 1)))
        # What is around may be known later.
        self.tells("given x . let y = x in two y ( plus x 1 )", "whole -> pair whole whole")
        self.tells("given f . let g = given x . f x in two ( g 1 ) ( f 2 )", "( whole -> 'a ) -> pair 'a 'a")

    def test_terms_that_use_one_another(self):
        self.tells("let f = given x . g x and g = given x . f x in two ( f 1 ) ( g \"a\" )", "pair 'a 'b")
        self.wrong("let f = given x . g x and g = given x . match f 1 | two p q = two p q end in f yes", ("unfit", (2, 1)))
        self.wrong("let f = given x . g x and g = given x . cons ( f x ) nil in f", ("unfit", (1, 0, 0, 1, 0)))
        # Within their ring names have one kind, behind it they have many.
        term = "let f = given x . match two ( f 1 ) ( f \"a\" ) | two p q = 1 end in f"
        self.wrong(term, ("unfit", (0, 0, 0, 1, 1)))
        self.tells("let f = given x . g ( g x ) and g = given x . x in two ( g 1 ) ( f \"a\" )", "pair whole text")
        self.tells("let f = two ( g 1 ) ( g \"a\" ) and g = given x . x in f", "pair whole text")

    def test_rings_of_the_uses_that_are_left(self):
        # Without the last use in g the names are no ring, and f may be used at two kinds.
        self.wrong(
            "let f = given x . g x and g = given y . match two ( f 1 ) ( f \"a\" ) | two p q = y end in f",
            ("unfit", (1, 0, 0, 1, 1)),
        )
        term = "let f = given x . _ and g = given y . match two ( f 1 ) ( f \"a\" ) | two p q = y end in f"
        self.tells(term, "'a -> 'b")

    def test_lets_within_lets(self):
        self.tells(
            "let f = given x . let g = given y . two x y in two ( g 1 ) ( g \"a\" ) in two ( f 1 ) ( f yes )",
            "pair ( pair ( pair whole whole ) ( pair whole text ) ) ( pair ( pair truth whole ) ( pair truth text ) )",
        )
        self.wrong(
            "let f = given x . let g = f in match two ( g 1 ) ( g \"a\" ) | two p q = 1 end in f",
            ("unfit", (0, 0, 1, 0, 1, 1)),
        )
        self.tells("let x = let y = nil in y in two ( cons 1 x ) ( cons yes x )", "pair ( list whole ) ( list truth )")

    def test_needs_are_asked_anew(self):
        self.tells("let e = given x . alike x x in two ( e 1 ) ( e \"a\" )", "pair truth truth")
        self.tells("let e = given x . alike x x in e", "'a -> truth if same 'a")
        self.tells("let e = given x . alike x x in given y . given z . two ( e y ) ( e z )", "'a -> 'b -> pair truth truth if same 'a , same 'b")
        self.wrong("let e = given x . alike x x in two ( e 1 ) ( e plus )", ("lacking", (1, 1, 1)))

    def test_what_no_one_uses_asks_nothing(self):
        self.tells("let e = alike plus plus in 1", "whole")
        self.tells("given x . let e = alike x x in 1", "'a -> whole")
        self.tells("given x . let e = alike x x in e", "'a -> truth if same 'a")
        self.tells("let e = alike nil nil in 1", "whole")
        self.wrong("let e = plus yes in 1", ("unfit", (0, 1)))
        # A name that is used by one that no one uses asks nothing, either.
        self.tells("let e = alike plus plus and f = e in 1", "whole")
        self.wrong("let e = alike plus plus and f = e in f", ("lacking", (2,)))

    def test_nothing_is_improved_there(self):
        # Each use of c has kinds of its own; they are improved where they are asked.
        self.tells("let c = given x . turn x in two ( c 1 ) ( c nil )", "pair text ( list ( pair 'a truth ) )")
        self.tells("given x . let c = turn x in two c c", "'a -> pair 'b 'b if turns 'a 'b")
        self.tells("let c = turn 1 in two c c", "pair text text")
        self.tells("let c = plus ( turn 1 ) 1 in 7", "whole")
        self.wrong("let c = plus ( turn 1 ) 1 in c", ("unfit", (1,)))

    def test_variables_of_needs_alone(self):
        term = "let c = given x . alike ( turn x ) ( turn x ) in two ( c 1 ) ( c ( cons 1 nil ) )"
        self.tells(term, "pair truth truth")

    def test_rings_ask_all_needs_of_their_terms(self):
        self.tells(
            "let f = given x . match alike x x | no = g x | yes = 0 end and g = given n . f n in g",
            "'a -> whole if same 'a",
        )


class TestDefinitions(unittest.TestCase):
    def tells(self, lines, name, scheme):
        found = program(*BASE, *lines).findings.schemes.at(name)
        self.assertEqual(found, read_scheme(scheme), f"{found.kind} {found.needs}")

    def test_one_by_itself(self):
        self.tells(["define i = given x . x"], "i", "'a -> 'a")
        lines = ["define has = given x . given l . match l | nil = no | cons h t = "
                 "match alike x h | yes = yes | no = has x t end end"]
        self.tells(lines, "has", "'a -> list 'a -> truth if same 'a")
        self.tells(["define a = a"], "a", "'a")

    def test_uses_of_others(self):
        lines = ["define top = two ( i 1 ) ( i yes )", "define i = given x . x"]
        self.tells(lines, "top", "pair whole truth")
        lines = ["define same = given x . alike x x", "define top = given x . same ( cons x nil )"]
        self.tells(lines, "top", "'a -> truth if same 'a")

    def test_rings(self):
        lines = [
            "define even = given n . match equal n 0 | yes = yes | no = odd ( minus n 1 ) end",
            "define odd = given n . match equal n 0 | yes = no | no = even ( minus n 1 ) end",
        ]
        self.tells(lines, "even", "whole -> truth")
        self.tells(lines, "odd", "whole -> truth")
        # All needs of a ring are those of each of its definitions.
        lines = [
            "define f = given x . match alike x x | yes = 1 | no = g x end",
            "define g = given x . plus ( f x ) ( size ( shown x ) )",
        ]
        for name in ("f", "g"):
            self.tells(lines, name, "'a -> whole if same 'a , words 'a")
        # Within a ring names have one kind.
        lines = ["define f = given x . g x", "define g = given x . match f 1 | two a b = two a b end"]
        self.tells(lines, "g", "whole -> pair 'a 'b")
        self.tells(lines, "f", "whole -> pair 'a 'b")

    def test_least_needs(self):
        lines = ["define f = given x . two ( alike x x ) ( atmost ( cons x nil ) nil )"]
        self.tells(lines, "f", "'a -> pair truth truth if order 'a")

    def test_told(self):
        # Uses go by the scheme that is told.
        lines = ["define n : list whole = nil", "define m = n"]
        self.tells(lines, "m", "list whole")
        lines = ["define e : 'a -> truth if order 'a = given x . alike x x", "define m = e"]
        self.tells(lines, "m", "'a -> truth if order 'a")
        # A told definition may use itself at other kinds.
        lines = ["define deep : 'a -> whole = given x . match yes | yes = 0 | no = deep ( two x x ) end", "define m = deep 1"]
        self.tells(lines, "m", "whole")

    def test_told_with_roles_that_settle(self):
        lines = ["define f : 'a -> 'b -> 'b if turns 'a 'b = given x . given y . match box ( turn x ) | box z = z | none = y end"]
        self.assertEqual(program(*BASE, *lines).findings.faulty, {})
        lines = ["define f : 'a -> whole if turns 'a text = given x . size ( turn x )"]
        self.assertEqual(program(*BASE, *lines).findings.faulty, {})


class TestWrong(TermCase):
    def test_first_places(self):
        self.wrong("plus \"a\"", ("unfit", (1,)))
        self.wrong("1 2", ("unfit", (0,)))
        self.wrong("plus 1 2 3", ("unfit", (0, 0, 0)))
        self.wrong("alike plus", ("lacking", (1,)))
        self.wrong("given x . alike x plus", ("lacking", (0, 1)))
        self.wrong("shown alike", ("lacking", (1,)))
        self.wrong("shown ( plus 1 )", ("lacking", (1, 0)))
        self.wrong("given x . two ( alike x plus ) ( plus x yes )", ("lacking", (0, 0, 1, 1)))
        self.wrong("given x . two ( plus yes x ) ( alike x plus )", ("unfit", (0, 0, 1, 0, 1)))
        # Whether a need is hopeless counts only for what is not unfit.
        self.wrong("alike plus 1", ("lacking", (0, 1)))

    def test_by_cases(self):
        self.wrong("alike ( cons plus nil )", ("lacking", (1, 0, 1)))
        self.wrong("alike ( two 1 plus )", ("lacking", (1, 1)))
        self.tells("alike ( idle 1 )", "idle 'a -> truth")

    def test_unclear(self):
        self.wrong("alike nil nil", ("unclear", "same"))
        self.wrong("two ( alike zero zero ) ( atmost nil nil )", ("unclear", "order"))
        self.wrong("given x . size ( shown ( slip x ) )", ("unclear", "loose"))

    def test_great(self):
        def doubled(many):
            return "given x . " + "dup ( " * (many - 1) + "dup x" + " )" * (many - 1)

        base = program(*BASE, "define dup = given x . two x x", "define wide = " + doubled(7))
        self.assertEqual(scheme_of(base, read_term(doubled(7))).size, 2**8 + 1)
        for many in (8, 9, 13, 20):
            self.wrong(doubled(many), ("great",), base)
        # Exactly 400 is not too much.
        base = program(
            *BASE,
            "define dup = given x . two x x",
            "define a = dup ( dup ( dup 1 ) )",
            "define b = dup ( dup ( dup a ) )",
            "define c = dup b",
        )
        self.assertEqual(scheme_of(base, read_term("two ( two c b ) ( cons a nil )")).size, 400)
        self.wrong("two ( two c b ) ( cons ( cons a nil ) nil )", ("great",), base)
        # Needs count, too, and what is unclear is told ahead of what is great.
        term = "given x . given y . given z . {} ( two c ( two b ( two x y ) ) )"
        self.assertEqual(scheme_of(base, read_term(term.replace("{}", "box"))).size, 394)
        term = "given x . given y . given z . {} ( two c ( two b ( two ( shown x ) ( alike y z ) ) ) )"
        self.assertEqual(scheme_of(base, read_term(term.replace("{}", "box"))).size, 396)
        for boxes, is_great in ((4, False), (5, True)):
            text = term.replace("{}", "box ( " * boxes + "box") + " )" * boxes
            if is_great:
                self.wrong(text, ("great",), base)
            else:
                self.assertEqual(scheme_of(base, read_term(text)).size, 400)
        self.wrong("two ( two c b ) ( two a ( alike nil nil ) )", ("unclear", "same"), base)

    def test_uses_of_faulty_definitions(self):
        base = program(
            *BASE,
            "define unfit = plus yes",
            "define lacking = alike plus",
            "define unclear = alike nil nil",
            "define stuck = two unfit 1",
            "define fine = 1",
            "define loop = plus loop unfit",
        )
        for name in ("unfit", "lacking", "unclear", "stuck"):
            self.wrong(f"two fine {name}", ("stuck", name), base)
        self.wrong("two stuck unfit", ("stuck", "stuck"), base)
        self.wrong("given unfit . two unfit loop", ("stuck", "loop"), base)
        # What is unfit, lacking or unclear counts as a hole; what is stuck has its scheme.
        self.wrong("two ( plus unfit 1 ) ( size unfit )", ("stuck", "unfit"), base)
        self.wrong("two ( plus unclear 1 ) ( size lacking )", ("stuck", "unclear"), base)
        self.wrong("plus stuck 1", ("unfit", (0, 1)), base)
        self.wrong("size loop", ("unfit", (1,)), base)


class TestPicks(unittest.TestCase):
    def told(self, picks, term):
        lines = ([f"picks {picks}"] if picks else []) + list(BASE)
        try:
            return scheme_of(program(*lines), read_term(term))
        except Wrong as wrong:
            return wrong.found

    def test_none(self):
        self.assertEqual(self.told("", "alike nil nil"), ("unclear", "same"))
        self.assertEqual(self.told("", "shown zero"), ("unclear", "words"))

    def test_the_first_that_meets_all(self):
        self.assertEqual(self.told("whole", "alike nil nil"), read_scheme("truth"))
        self.assertEqual(self.told("text , whole", "shown zero"), read_scheme("text"))
        self.assertEqual(self.told("whole -> whole , text", "alike nil nil"), read_scheme("truth"))
        self.assertEqual(self.told("text , list text", "shown zero"), ("unclear", "words"))

    def test_beside_another_variable(self):
        self.assertEqual(self.told("whole , text", "slip ( slip nil )"), ("unclear", "loose"))
        self.assertEqual(self.told("whole , text", "given x . two x ( shown ( slip x ) )"), ("unclear", "loose"))
        self.assertEqual(self.told("text , whole", "given x . slip ( turn x )"), read_scheme("'a -> 'c if turns 'a 'b , loose 'b 'c"))

    def test_all_needs_of_a_variable(self):
        term = "given f . let z = zero in f ( alike z z )"
        self.assertEqual(self.told("text , whole", term), read_scheme("( truth -> 'a ) -> 'a"))
        term = "( given z . two ( alike z z ) ( plus 1 ( size ( shown z ) ) ) ) zero"
        self.assertEqual(self.told("truth , whole", term), read_scheme("pair truth whole"))

    def test_only_what_is_not_known(self):
        self.assertEqual(self.told("whole", "given x . alike x x"), read_scheme("'a -> truth if same 'a"))
        self.assertEqual(self.told("whole", "given x . turn x"), read_scheme("'a -> 'b if turns 'a 'b"))

    def test_beside_another_variable_that_no_one_looks_at(self):
        lines = ["picks whole", *BASE, "case loosew : loose whole 'b", "as slip = given x . slip x"]
        with self.assertRaises(Wrong) as caught:
            scheme_of(program(*lines), read_term("slip zero"))
        self.assertEqual(caught.exception.found, ("unclear", "loose"))
        self.assertEqual(scheme_of(program(*lines), read_term("size ( slip ( plus 1 zero ) )")), read_scheme("whole"))

    def test_within_a_kind(self):
        lines = [*BASE, "role odd 'a", "member oddm : 'a -> whole", "case oddl : odd ( list whole )", "as oddm = given x . 1"]
        found = program("picks text , truth , whole", *lines)
        self.assertEqual(scheme_of(found, read_term("oddm nil")), read_scheme("whole"))
        with self.assertRaises(Wrong) as caught:
            scheme_of(program("picks text", *lines), read_term("oddm nil"))
        self.assertEqual(caught.exception.found, ("unclear", "odd"))

    def test_only_whole_ones(self):
        # The variable of fmap has the shape 1.
        term = "given x . ( given y . 1 ) ( fmap ( given z . z ) _ )"
        self.assertEqual(self.told("whole", term), ("unclear", "maps"))

    def test_in_rings_and_told_ones(self):
        lines = [
            "picks whole",
            *BASE,
            "define f = given n . match alike nil nil | yes = n | no = g n end",
            "define g = given n . f ( plus n zero )",
            "define h : text = shown zero",
            "define k : 'a -> text = given x . shown zero",
            "define l : 'a -> text if same 'a = given x . match alike nil nil | yes = shown zero | no = \"\" end",
        ]
        found = program(*lines).findings
        self.assertEqual(found.faulty, {})
        self.assertEqual(found.schemes.at("f"), read_scheme("whole -> whole"))


if __name__ == "__main__":
    unittest.main()
