"""Marked terms: points 60 to 62."""

import random
import unittest

from leastneeds.declarations import Definition
from leastneeds.errors import Faulty, UnknownName
from leastneeds.kinds import con, to, var
from leastneeds.marked import due, marked
from leastneeds.program import Program
from leastneeds.reader import read_scheme

from marks import Wrong, check_marked, wheres
from samples import A, B, C, TEXT, TRUTH, WHOLE, listed, pair

BASE = """data list 'a = nil | cons 'a ( list 'a )
data pair 'a 'b = two 'a 'b
derive slist : same list
derive olist : order list
derive wlist : words list
derive spair : same pair
role turns 'a 'b settles 0 1
member turn : 'a -> 'b
member into : 'c -> 'a -> 'b if words 'c , same 'a = given x . given y . turn y
role maps 'f
member fmap : ( 'a -> 'b ) -> 'f 'a -> 'f 'b
role zeros 'a
member zero : 'a
member blank : 'b -> 'a -> text if words 'b , same ( list 'b ) = given x . given y . match alike x x | yes = shown x | no = "" end
case turnw : turns whole text
as turn = spell
case turnp : turns ( pair 'a 'b ) ( list 'b ) if zeros 'b
as turn = given x . cons zero nil
case mapl : maps list
as fmap = given f . given x . match x | nil = nil | cons h t = cons ( f h ) ( fmap f t ) end
case mapp : maps ( pair 'c )
as fmap = given f . given x . match x | two a b = two a ( f b ) end
case zerow : zeros whole
as zero = 0
case zerol : zeros ( list 'b ) if zeros 'b
as zero = cons zero nil
as blank = given c . given x . match alike ( cons c nil ) nil | yes = shown c | no = "no" end"""


def based(*lines):
    return Program.read("\n".join([BASE, *lines]))


def name(word, *kinds, papers=()):
    return ("name", word, kinds, tuple(papers))


def use(function, *arguments):
    for argument in arguments:
        function = ("use", function, argument)
    return function


def alike(kind, paper):
    return ("member", "alike", (kind,), paper, (), ())


class TestForms(unittest.TestCase):
    def tells(self, term, value, *lines):
        program = based(*lines, f"define it = {term}")
        self.assertEqual(marked(program, ("definition", "it")), value)
        check_marked(program, ("definition", "it"), value)

    def test_leaves_and_names(self):
        self.tells("7", ("whole", 7))
        self.tells('"a"', ("text", "a"))
        self.tells("plus", name("plus"))
        self.tells("yes", name("yes"))
        self.tells("nil", name("nil", A))
        self.tells("two", name("two", A, B))

    def test_uses_and_functions(self):
        self.tells("given x . x", ("given", "x", A, name("x")))
        self.tells("given x . plus x", ("given", "x", WHOLE, use(name("plus"), name("x"))))
        self.tells("cons 1 nil", use(name("cons", WHOLE), ("whole", 1), name("nil", WHOLE)))
        inner = ("given", "y", B, use(name("two", B, A), name("y"), name("x")))
        self.tells("given x . given y . two y x", ("given", "x", A, inner))

    def test_matches(self):
        body = ("match", name("x"), (("two", ("p", "q"), use(name("two", B, A), name("q"), name("p"))),))
        self.tells("given x . match x | two p q = two q p end", ("given", "x", pair(A, B), body))
        arms = (("nil", (), ("whole", 0)), ("cons", ("h", "t"), name("h")))
        self.tells("given x . match x | nil = 0 | cons h t = h end", ("given", "x", listed(WHOLE), ("match", name("x"), arms)))

    def test_members(self):
        self.tells("alike 1", use(alike(WHOLE, ("case", "swhole", ())), ("whole", 1)))
        self.tells("alike", alike(A, ("given", 0, ())))
        paper = ("case", "slist", (("given", 0, ()),))
        body = use(alike(listed(A), paper), use(name("cons", A), name("x"), name("nil", A)))
        self.tells("given x . alike ( cons x nil )", ("given", "x", A, body))
        paper = ("case", "mapl", ())
        self.tells("fmap spell nil", use(("member", "fmap", (con("list"),), paper, (WHOLE, TEXT), ()), name("spell"), name("nil", WHOLE)))
        self.tells("fmap", ("member", "fmap", (var("c"),), ("given", 0, ()), (A, B), ()))
        self.tells("turn 1", use(("member", "turn", (WHOLE, TEXT), ("case", "turnw", ()), (), ()), ("whole", 1)))

    def test_needs_of_the_member_itself(self):
        own = (("case", "wtruth", ()), ("case", "swhole", ()))
        into = ("member", "into", (WHOLE, TEXT), ("case", "turnw", ()), (TRUTH,), own)
        self.tells("into yes 1", use(into, name("yes"), ("whole", 1)))
        program = based("define it = into")
        self.assertEqual(program.scheme("it"), read_scheme("'a -> 'b -> 'c if turns 'b 'c , words 'a , same 'b"))
        # The least context is ordered by roles: same, turns, words.
        papers = (("given", 2, ()), ("given", 0, ()))
        self.tells("into", ("member", "into", (B, C), ("given", 1, ()), (A,), papers))

    def test_names_with_needs(self):
        eq = "define eq : 'k -> 'j -> truth if same 'j , same 'k = given x . given y . alike x x"
        self.tells("eq 1", use(name("eq", WHOLE, A, papers=[("given", 0, ()), ("case", "swhole", ())]), ("whole", 1)), eq)

    def test_first_papers(self):
        # The needs of order have those of same above them.
        program = based("define it = given x . match alike x x | yes = atmost x x | no = no end")
        paper = ("given", 0, (("above", 0),))
        self.assertEqual(due(program, ("definition", "it")), (to(A, TRUTH), (("order", A),)))
        subject = use(alike(A, paper), name("x"), name("x"))
        atmost = use(("member", "atmost", (A,), ("given", 0, ()), (), ()), name("x"), name("x"))
        value = ("given", "x", A, ("match", subject, (("yes", (), atmost), ("no", (), name("no")))))
        self.assertEqual(marked(program, ("definition", "it")), value)

    def test_improved_and_picked(self):
        program = Program.read("picks text -> text , truth , whole\n" + BASE + "\ndefine it = alike nil nil\ndefine at = given x . shown ( turn x )")
        paper = ("case", "slist", (("case", "struth", ()),))
        value = use(alike(listed(TRUTH), paper), name("nil", TRUTH), name("nil", TRUTH))
        self.assertEqual(marked(program, ("definition", "it")), value)
        turn = ("member", "turn", (A, B), ("given", 0, ()), (), ())
        shown = ("member", "shown", (B,), ("given", 1, ()), (), ())
        self.assertEqual(marked(program, ("definition", "at")), ("given", "x", A, use(shown, use(turn, name("x")))))


class TestLets(unittest.TestCase):
    def value(self, term, *lines):
        program = based(*lines, f"define it = {term}")
        found = marked(program, ("definition", "it"))
        check_marked(program, ("definition", "it"), found)
        return found

    def test_one_name(self):
        word, rows, body = self.value("let i = given x . x in i 1")
        self.assertEqual((word, len(rows)), ("let", 1))
        told, variables, needs, kind, term = rows[0]
        self.assertEqual((told, len(variables), needs), ("i", 1, ()))
        item = var(variables[0])
        self.assertEqual((kind, term), (to(item, item), ("given", "x", item, name("x"))))
        self.assertEqual(body, use(name("i", WHOLE), ("whole", 1)))

    def test_needs(self):
        _, rows, body = self.value("let e = given x . two ( shown x ) ( alike x x ) in two ( e 1 ) ( e yes )")
        _, variables, needs, _, term = rows[0]
        item = var(variables[0])
        # In reading order, each once.
        self.assertEqual(needs, (("words", item), ("same", item)))
        shown = ("member", "shown", (item,), ("given", 0, ()), (), ())
        inner = use(name("two", TEXT, TRUTH), use(shown, name("x")), use(alike(item, ("given", 1, ())), name("x"), name("x")))
        self.assertEqual(term, ("given", "x", item, inner))
        first = name("e", WHOLE, papers=[("case", "wwhole", ()), ("case", "swhole", ())])
        second = name("e", TRUTH, papers=[("case", "wtruth", ()), ("case", "struth", ())])
        both = pair(TEXT, TRUTH)
        self.assertEqual(body, use(name("two", both, both), use(first, ("whole", 1)), use(second, name("yes"))))

    def test_each_once(self):
        _, rows, _ = self.value("let e = given x . given y . match alike x x | yes = alike y x | no = alike y y end in e 1")
        self.assertEqual([need[0] for need in rows[0][2]], ["same"])

        # Also if they are made by different uses.
        rest = "match alike ( cons x nil ) nil | yes = alike nil ( cons x nil ) | no = alike ( cons x nil ) ( cons y nil ) end"
        _, rows, _ = self.value("let e = given x . given y . " + rest + " in e 1")
        self.assertEqual(rows[0][2], (("same", listed(var(rows[0][1][0]))),))

        # Kinds that end alike are not the same.
        rest = "match alike ( cons x nil ) nil | yes = alike ( two 1 x ) ( two 1 x ) | no = alike ( two x x ) ( two x x ) end"
        _, rows, _ = self.value("let e = given x . " + rest + " in e 1")
        item = var(rows[0][1][0])
        self.assertEqual(rows[0][2], tuple([("same", kind) for kind in (listed(item), pair(WHOLE, item), pair(item, item))]))

    def test_needs_that_are_met_are_asked_too(self):
        _, rows, body = self.value("let e = alike 1 2 in e")
        self.assertEqual(rows[0][1:3], ((), (("same", WHOLE),)))
        self.assertEqual(body, name("e", papers=[("case", "swhole", ())]))
        # The paper in the term is the need of the let, not the case: the first one.
        self.assertEqual(rows[0][4], use(alike(WHOLE, ("given", 0, ())), ("whole", 1), ("whole", 2)))

    def test_needs_behind_those_of_the_definition(self):
        value = self.value("given x . let e = given y . two ( alike x x ) ( alike y y ) in two ( e x ) ( e 1 )")
        _, rows, body = value[3]
        item = var(rows[0][1][0])
        self.assertEqual(rows[0][2], (("same", A), ("same", item)))
        # A need that the definition has comes first there, too.
        self.assertIn("('member', 'alike', (('var', 'a'),), ('given', 0, ()), (), ())", str(rows[0][4]))
        self.assertIn("('given', 2, ())", str(rows[0][4]))
        self.assertNotIn("('given', 1, ())", str(rows[0][4]))
        self.assertEqual(body[1][2][1][2], (A,))

    def test_rings_within_one_another(self):
        term = "let f = given x . g x and g = given x . x and h = given x . k x and k = given x . h x in f ( h 1 )"
        value = self.value(term)
        words = []
        while value[0] == "let":
            words.append([row[0] for row in value[1]])
            value = value[2]
        self.assertEqual(words, [["g"], ["f"], ["h", "k"]])

    def test_own_names(self):
        term = "given x . match alike x x | yes = g x | no = 1 end and g = given x . plus ( f x ) ( size ( shown x ) ) in f 1"
        value = self.value("let f = " + term)
        (one, other) = value[1]
        self.assertEqual(one[1:3], other[1:3])
        item = var(one[1][0])
        self.assertEqual(one[2], (("same", item), ("words", item)))
        papers = [("given", 0, ()), ("given", 1, ())]
        self.assertIn(str(name("g", item, papers=papers)), str(one[4]))
        self.assertIn(str(name("f", item, papers=papers)), str(other[4]))

    def test_own_names_within_inner_lets(self):
        term = "given x . let f = given y . let g = given z . two ( alike z z ) ( f y ) in match g x | two p q = alike x x end in f 1"
        value = self.value(term)
        rows = value[3][1]
        # In the terms of g stand one need of the definition, the needs of f and then those of g.
        self.assertEqual(len(rows[0][2]), 1)
        inner = rows[0][4][3][1]
        self.assertIn("('name', 'f', (('var', %r),), (('given', 1, ()),))" % rows[0][1][0], str(inner[0][4]))

    def test_own_needs_behind_those_that_have_others_above(self):
        term = "given x . let f = given y . match atmost y y | yes = f y | no = atmost x x end in f x"
        value = self.value(term)
        rows = value[3][1]
        self.assertEqual(len(rows[0][2]), 2)
        self.assertIn("(('given', 1, ()), ('given', 2, ()))", str(rows[0][4]))

    def test_lets_within_lets(self):
        self.value("let f = given x . let g = given y . two x y in two ( g 1 ) ( g yes ) in two ( f 1 ) ( f yes )")
        self.value("let f = given x . let g = given y . two ( alike x x ) ( alike y y ) in two ( g 1 ) ( g yes ) in two ( f 1 ) ( f yes )")
        self.value("given x . let f = let g = given y . two ( alike x x ) ( shown y ) in two g g in match f | two p q = two ( p 1 ) ( q yes ) end")
        self.value("let x = let x = nil in cons x nil in let x = x in two ( cons ( cons 1 nil ) x ) x")

    def test_what_nothing_determines(self):
        value = self.value("let e = alike nil nil in 1")
        self.assertEqual(value[2], ("whole", 1))
        self.value("( given x . 1 ) nil")
        self.value("( given x . 1 ) ( given y . y )")
        self.value("let e = ( given x . 1 ) nil in e")
        self.value("given x . ( given y . x ) ( given z . let w = z in two w w )")
        self.value("let f = given x . g x and g = given x . f x in two ( f 1 ) 2")
        self.value("let f = given x . 1 and g = given y . f nil in g 2")

    def test_variables_have_names_of_their_own(self):
        value = self.value("given x . let n = nil and m = given y . two y x in let k = nil in two ( m n ) ( m k )")
        found = []
        waiting = [value]
        while waiting:
            part = waiting.pop()
            if isinstance(part, tuple):
                if part[:1] == ("let",):
                    found += [row[1] for row in part[1]]
                waiting.extend(part)
        names = [word for row in found for word in row]
        self.assertEqual(len(names), len(set(names)))
        self.assertNotIn("a", names)


class TestDefinitions(unittest.TestCase):
    def all_right(self, *lines):
        program = based(*lines)
        self.assertEqual(program.faults, ())
        for where in wheres(program):
            value = marked(program, where)
            check_marked(program, where, value)
            self.assertEqual(marked(program=program, where=where), value)
        return program

    def test_cases_and_defaults(self):
        self.all_right()
        self.all_right("data odd 'a = one | other 'a ( odd ( list 'a ) ) ( pair 'a whole ) text", "derive sodd : same odd", "derive oodd : order odd", "derive wodd : words odd", "derive opair : order pair", "derive wpair : words pair")

    def test_a_definition_by_itself(self):
        program = self.all_right("define has = given x . given l . match l | nil = no | cons h t = match alike x h | yes = yes | no = has x t end end")
        value = marked(program, ("definition", "has"))
        self.assertIn(str(name("has", A, papers=[("given", 0, ())])), str(value))

    def test_rings(self):
        program = self.all_right(
            "define f = given x . given y . match alike x x | yes = 1 | no = g y x end",
            "define g = given x . given y . plus ( f y x ) ( size ( shown ( turn y ) ) )",
            "define h = given x . f x ( g 1 x )",
        )
        kind, needs = due(program, ("definition", "f"))
        self.assertEqual(program.scheme("f"), read_scheme("'a -> 'b -> whole if same 'a , turns 'a 'c , words 'c"))
        g = name("g", B, A, C, papers=[("given", k, ()) for k in range(3)])
        self.assertIn(str(g), str(marked(program, ("definition", "f"))))
        self.assertEqual(kind, to(A, B, WHOLE))

    def test_a_ring_with_variables_of_one_name_alone(self):
        program = self.all_right(
            "define f = given x . match g x nil | two p q = p end",
            "define g = given x . given y . match two ( f x ) y | two p q = two p y end",
        )
        self.assertEqual(program.scheme("f"), read_scheme("'a -> 'b"))
        self.assertEqual(program.scheme("g"), read_scheme("'a -> list 'b -> pair 'c ( list 'b )"))

    def test_told_ones(self):
        program = self.all_right(
            "define deep : 'z -> whole if same 'z = given x . match alike x x | yes = deep ( two x x ) | no = deep 1 end",
            "define less : list 'z -> truth if order 'z = given x . alike x x",
            "define other : 'x -> whole if order 'x = given y . deep ( cons y nil )",
            "define know : 'a -> whole if turns 'a 'b , words 'b = given x . let n = nil in match n | nil = size ( shown ( turn x ) ) | cons h t = 1 end",
            "define more : 'z -> list whole if words 'z , same 'z = given x . let e = given y . two ( alike x x ) y in match e 1 | two p q = cons q nil end",
        )
        value = marked(program, ("definition", "deep"))
        z = var("z")
        self.assertIn(str(name("deep", pair(z, z), papers=[("case", "spair", (("given", 0, ()), ("given", 0, ())))])), str(value))
        value = marked(program, ("definition", "other"))
        paper = ("case", "slist", (("given", 0, (("above", 0),)),))
        self.assertIn(str(name("deep", listed(var("x")), papers=[paper])), str(value))

    def test_untold_ones_that_use_told_ones(self):
        self.all_right(
            "define f = given x . g ( two x x )",
            "define g : 'y -> truth if same 'y = given x . f x",
            "define h = let a = f and b = given x . g x in two ( a 1 ) ( b yes )",
        )

    def test_random_terms(self):
        base = based()
        words = ["nil", "cons", "two", "turn", "fmap", "zero", "alike", "shown", "plus", "blank", "yes", "fa", "fb"]
        done = 0
        for seed in range(150):
            chance = random.Random(seed)
            rows = [Definition(word, random_term(chance, chance.randint(2, 5), words)) for word in ("fa", "fb")]
            program = base.with_more(*rows)
            if program.is_right:
                for row in rows:
                    check_marked(program, ("definition", row.name), marked(program, ("definition", row.name)))
                    done += 1
        self.assertGreater(done, 30)


def random_term(chance, depth, words):
    sort = chance.random()
    if depth <= 0 or sort < 0.25:
        return ("whole", 1) if chance.random() < 0.1 else ("name", chance.choice(words))
    if sort < 0.55:
        return ("use", random_term(chance, depth - 1, words), random_term(chance, depth - 1, words))
    if sort < 0.75:
        word = chance.choice("xyz")
        return ("given", word, random_term(chance, depth - 1, words + [word] * 6))
    names = list(chance.choice(("p", "q", "pq")))
    inner = words + names * 4
    rows = tuple((word, random_term(chance, depth - 2, inner)) for word in names)
    return ("let", rows, random_term(chance, depth - 1, inner))


class TestDue(unittest.TestCase):
    def test_definitions(self):
        program = based("define f = given x . alike x x", "define g : 'q -> 'p -> truth if same 'p , words 'q = given x . given y . yes")
        self.assertEqual(due(program, ("definition", "f")), (to(A, TRUTH), (("same", A),)))
        p, q = var("p"), var("q")
        self.assertEqual(due(program, ("definition", "g")), (to(q, p, TRUTH), (("same", p), ("words", q))))
        self.assertEqual(due(program=program, where=("definition", "f")), due(program, ("definition", "f")))

    def test_defaults(self):
        program = based()
        needs = (("zeros", A), ("words", B), ("same", listed(B)))
        self.assertEqual(due(program, ("role", "zeros", "blank")), (to(B, A, TEXT), needs))
        kind, needs = due(program, ("role", "turns", "into"))
        self.assertEqual((kind, needs), (to(C, A, B), (("turns", A, B), ("words", C), ("same", A))))

    def test_members_of_cases(self):
        program = based()
        # The case has the variable b, so that of the member becomes a; the needs of the case come first.
        needs = (("zeros", B), ("words", A), ("same", listed(A)))
        self.assertEqual(due(program, ("case", "zerol", "blank")), (to(A, listed(B), TEXT), needs))
        self.assertEqual(due(program, ("case", "zerol", "zero")), (listed(B), (("zeros", B),)))
        d = var("d")
        self.assertEqual(due(program, ("case", "mapp", "fmap")), (to(to(A, B), pair(C, A), pair(C, B)), ()))
        self.assertEqual(due(program, ("case", "mapl", "fmap")), (to(to(A, B), listed(A), listed(B)), ()))
        more = based("role many 'f", "member all : 'f 'a 'b 'c 'd -> 'b", "data big 'a 'b 'c 'd = big 'b",
                     "case manyb : many big", "as all = given x . match x | big y = y end")
        self.assertEqual(due(more, ("case", "manyb", "all"))[0], to(con("big", A, B, C, d), B))

    def test_names_are_skipped(self):
        # The other variables become the first names that no variable of the case has.
        lines = ["role wide 'f", "member each : 'f 'x -> 'y -> 'z -> 'y", "case widep : wide ( pair ( pair 'a 'c ) )", "as each = given x . given y . given z . y"]
        program = based(*lines)
        b, d, e = var("b"), var("d"), var("e")
        self.assertEqual(due(program, ("case", "widep", "each"))[0], to(pair(pair(A, C), b), d, e, d))

    def test_variables_of_needs_alone(self):
        lines = ["role goes 'a", "member go : 'a -> whole if turns 'a 'b , words 'b", "case gop : goes ( pair 'b 'c ) if turns 'c 'b", "as go = given x . 1"]
        d = var("d")
        needs = (("turns", C, B), ("turns", pair(B, C), A), ("words", A))
        program = based(*lines[:2])
        with self.assertRaises(UnknownName):
            due(program, ("case", "gop", "go"))
        lines[2] = lines[2].replace("pair", "odd")
        program = based("data odd 'a 'b = odd 'a 'b", *lines)
        self.assertEqual(due(program, ("case", "gop", "go")), (to(con("odd", B, C), WHOLE), (needs[0], ("turns", con("odd", B, C), A), needs[2])))
        self.assertNotIn(d, needs)

    def test_built_in_and_derived(self):
        program = based()
        self.assertEqual(due(program, ("case", "swhole", "alike")), (to(WHOLE, WHOLE, TRUTH), ()))
        self.assertEqual(due(program, ("case", "wtext", "shown")), (to(TEXT, TEXT), ()))
        self.assertEqual(due(program, ("case", "slist", "alike")), (to(listed(A), listed(A), TRUTH), (("same", A),)))
        self.assertEqual(due(program, ("case", "olist", "atmost")), (to(listed(A), listed(A), TRUTH), (("order", A),)))

    def test_faulty_programs(self):
        program = based("define g = f", "define f = 1 2", "case zerop : zeros ( pair 'a 'b )", "as zero = 1")
        for ask in (due, marked):
            for where in (("definition", "g"), ("definition", "nothing"), ("case", "zerop", "zero"), None, 1, []):
                with self.assertRaises(Faulty) as caught:
                    ask(program, where)
                self.assertEqual(caught.exception.where, ("definition", "g"))
        program = based("case zerop : zeros ( pair 'a 'b )", "as zero = 1", "role r 'a", "member rm : 'a = 1")
        with self.assertRaises(Faulty) as caught:
            marked(program, ("case", "zerow", "zero"))
        self.assertEqual(caught.exception.where, ("role", "r", "rm"))

    def test_any_value_as_a_where(self):
        program = based("define f = 1")
        deep = ()
        for _ in range(245):
            deep = (deep,)
        for value in (
            None, True, 0, "f", (), ("definition",), ("definition", "g"), ("definition", "nil"), ["definition", "f"], ("definition", "f", ""),
            ("role", "zeros", "zero"), ("role", "same", "alike"), ("role", "zeros"), ("case", "zerow", "blank"), ("case", "none", "zero"),
            ("case", "zerow", ["zero"]), ("term", "f"), deep, {}, program, ("definition", deep), (deep, "f"),
        ):
            for ask in (due, marked):
                with self.assertRaises(UnknownName) as caught:
                    ask(program, value)
                self.assertIs(caught.exception.value, value)


class TestChecker(unittest.TestCase):
    def test_it_finds_what_is_wrong(self):
        program = based("define it = given x . let e = given y . alike y y in e x")
        where = ("definition", "it")
        value = marked(program, where)
        check_marked(program, where, value)
        changes = 0
        for place in all_places(value):
            for new in (("name", "x", (), ()), A, ("given", 1, ()), "x", ()):
                other = replaced(value, place, new)
                if other != value:
                    changes += 1
                    with self.assertRaises((Wrong, IndexError, KeyError, ValueError, TypeError, AttributeError), msg=(place, new)):
                        check_marked(program, where, other)
        self.assertGreater(changes, 100)


def all_places(value):
    found = [()]
    if isinstance(value, tuple):
        for k, part in enumerate(value):
            found += [(k,) + place for place in all_places(part)]
    return found


def replaced(value, place, new):
    if not place:
        return new
    return value[: place[0]] + (replaced(value[place[0]], place[1:], new),) + value[place[0] + 1 :]


if __name__ == "__main__":
    unittest.main()
