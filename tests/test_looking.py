"""Whether marked terms are right: points 60 to 62."""

import random
import unittest

from leastneeds.errors import Faulty, UnknownName
from leastneeds.kinds import con, to, var
from leastneeds.looking import is_marked
from leastneeds.marked import marked
from leastneeds.program import Program
from leastneeds.ways import ways

from marks import Wrong, check_marked, wheres
from samples import A, B, C, D, TEXT, TRUTH, WHOLE, listed, pair

PROGRAM = Program.read(
    """data list 'a = nil | cons 'a ( list 'a )
data pair 'a 'b = two 'a 'b
derive slist : same list
derive olist : order list
derive spair : same pair
role turns 'a 'b settles 0 1
member turn : 'a -> 'b
member into : 'c -> 'a -> 'b if words 'c , same 'a = given x . given y . turn y
role maps 'f
member over : ( 'a -> 'b ) -> 'f 'a -> 'f 'b
role zeros 'a
member zero : 'a
member blank : 'b -> 'a -> text if words 'b , same 'b = given x . given y . match alike x x | yes = shown x | no = "" end
case turnw : turns whole text
as turn = spell
case mapl : maps list
as over = given f . given x . match x | nil = nil | cons h t = cons ( f h ) ( over f t ) end
case mapp : maps ( pair 'c )
as over = given f . given x . match x | two p q = two p ( f q ) end
case zerow : zeros whole
as zero = 0
case zerop : zeros ( pair 'a 'b ) if zeros 'a , zeros 'b
as zero = two zero zero
as blank = given x . given y . match alike x x | yes = shown x | no = "no" end
define has = given x . given l . match l | nil = no | cons h t = match alike x h | no = has x t | yes = yes end end
define odd = given l . match l | nil = no | cons h t = even t h end
define even = given l . given x . match l | nil = alike x x | cons h t = odd t end
define both : 'a -> truth if same 'a , order 'a = given x . match alike x x | no = no | yes = atmost x x end
define again : 'a -> truth if same 'a = given x . match alike x x | no = again ( cons x nil ) | yes = both 1 end
define lets = given x . let p = given y . alike y y and q = given z . match p z | no = q z | yes = p x end in two ( q 1 ) q
define deep = given x . let p = given y . let q = given z . two z ( two y x ) in q in p 1 "a"
define fixed = given x . let p = given y . alike x y in p x
define plain = let p = given y . y in two ( p 1 ) ( p "t" )
define vague = let p = 1 in match nil | nil = p | cons h t = 2 end
define hide = given x . given x . let p = given y . two x y in p 1
define shadow = let x = given x . x in x 1
define zeroes = two zero ( blank "a" 1 )"""
)


def where(name):
    return ("definition", name)


def name(word, *kinds, papers=()):
    return ("name", word, kinds, tuple(papers))


def positions(value, at=()):
    yield at
    if isinstance(value, tuple):
        for k, part in enumerate(value):
            yield from positions(part, at + (k,))


def get(value, at):
    for k in at:
        value = value[k]
    return value


def changed(value, at, part):
    if not at:
        return part
    return value[: at[0]] + (changed(value[at[0]], at[1:], part),) + value[at[0] + 1 :]


def renamed(value, old, new):
    """The value with another name for a variable, also where a let declares it."""
    if isinstance(value, tuple):
        return tuple(renamed(part, old, new) for part in value)
    return new if value == old else value


def with_kind(value, old, new):
    if value == old:
        return new
    return tuple(with_kind(part, old, new) for part in value) if isinstance(value, tuple) else value


class LookCase(unittest.TestCase):
    def right(self, word, value, program=PROGRAM):
        self.assertIs(is_marked(program, where(word), value), True, value)
        check_marked(program, where(word), value)

    def wrong(self, word, value, program=PROGRAM):
        self.assertIs(is_marked(program, where(word), value), False, value)


class TestRight(LookCase):
    def test_what_marked_tells(self):
        self.assertEqual(PROGRAM.faults, ())
        count = 0
        for row in wheres(PROGRAM):
            self.assertIs(is_marked(PROGRAM, row, marked(PROGRAM, row)), True, row)
            for value in list(ways(PROGRAM, row))[:30]:
                self.assertIs(is_marked(PROGRAM, row, value), True, row)
                count += 1
        self.assertGreater(count, len(wheres(PROGRAM)))

    def test_every_other_way_of_papers(self):
        found = list(ways(PROGRAM, where("both")))
        self.assertEqual(len(found), 2)
        papers = [value[3][1][1][1][3] for value in found]
        self.assertEqual(papers, [("given", 0, ()), ("given", 1, (("above", 0),))])
        for value in found:
            self.right("both", value)
        at = (3, 1, 1, 1, 3)
        for paper in (("given", 1, ()), ("given", 0, (("above", 0),)), ("given", 2, ()), ("given", -1, ()), ("case", "swhole", ())):
            self.wrong("both", changed(found[0], at, paper))

    def test_other_kinds_where_nothing_determines_them(self):
        value = marked(PROGRAM, where("vague"))
        self.assertEqual(value[2][1], name("nil", A))
        for kind in (WHOLE, C, to(A, B), con("zzz"), con("zzz", con("zzz")), con("list"), con("whole", WHOLE), con("to")):
            self.right("vague", with_kind(value, A, kind))
        for kind in (("con", "Zzz"), ("con", "data"), ("var", ""), ("apply", A), None, "a", ("con", "list", A), [A]):
            self.wrong("vague", with_kind(value, A, kind))
        # What is asked there needs a paper.
        program = Program.read("data list 'a = nil\nderive slist : same list\ndefine it = alike nil nil")
        value = marked(program, where("it"))
        for kind in (WHOLE, A, con("zzz")):
            self.right("it", with_kind(value, A, kind), program)

    def test_names_of_variables_of_lets(self):
        value = marked(PROGRAM, where("plain"))
        self.assertEqual(value[1][0][:4], ("p", ("a",), (), to(A, A)))
        for word in ("b", "zzz", "x"):
            self.right("plain", renamed(value, "a", word))
        for word in ("", "let", "A", "toolongname"):
            self.wrong("plain", renamed(value, "a", word))
        self.wrong("plain", changed(value, (1, 0, 1), ("a", "a")))
        self.wrong("plain", changed(value, (1, 0, 1), ["a"]))
        self.wrong("plain", changed(value, (1, 0, 1), "a"))
        self.wrong("plain", changed(value, (1, 0, 1), ()))

    def test_a_variable_more(self):
        value = marked(PROGRAM, where("plain"))
        more = changed(value, (1, 0, 1), ("a", "b"))
        self.wrong("plain", more)
        for at in ((2, 1, 2, 1, 2), (2, 2, 1, 2)):
            if get(more, at) in ((WHOLE,), (TEXT,)):
                more = changed(more, at, get(more, at) + (con("zzz"),))
        first = more[2][1][2][1]
        self.assertEqual(first, name("p", WHOLE, con("zzz")))
        self.right("plain", more)


class TestLets(LookCase):
    def test_variables_around(self):
        value = marked(PROGRAM, where("fixed"))
        row = value[3][1][0]
        self.assertEqual(row[:4], ("p", (), (("same", A),), to(A, TRUTH)))
        # The kind of x stands around, so no variable of the let has its name.
        self.wrong("fixed", changed(value, (3, 1, 0, 1), ("a",)))
        self.right("fixed", changed(changed(value, (3, 1, 0, 1), ("b",)), (3, 2, 1, 2), (con("zzz"),)))
        value = marked(PROGRAM, where("deep"))
        self.assertEqual((value[3][1][0][1], value[3][1][0][4][3][1][0][1]), (("b", "c"), ("d",)))
        self.right("deep", renamed(value, "d", "h"))
        for word in ("a", "b"):
            self.wrong("deep", renamed(value, "d", word))

    def test_variables_of_the_due_kind_and_of_the_context(self):
        value = marked(PROGRAM, where("lets"))
        variables = value[3][1][0][1]
        self.assertEqual(len(variables), 1)
        self.right("lets", renamed(value, variables[0], "zz"))
        for word in ("a", "b"):
            self.wrong("lets", renamed(value, variables[0], word))

    def test_hidden_names(self):
        value = marked(PROGRAM, where("hide"))
        self.assertEqual(value[2], A)
        free = Program.read("define at = ( given x . given z . let p = given y . y in 1 ) nil nil\ndata list 'a = nil")
        value = marked(free, where("at"))
        kinds = (value[1][1][2], value[1][1][3][2])
        self.assertTrue(all(kind[1][0] == "con" and kind[2][0] == "var" for kind in kinds))
        own = value[1][1][3][3][1][0][1][0]
        # Both kinds stand around: no variable of the let has the name of one in them.
        for kind in kinds:
            self.wrong("at", renamed(value, own, kind[2][1]), free)
        hidden = Program.read("define at = ( given x . given x . let p = given y . y in 1 ) nil nil\ndata list 'a = nil")
        value = marked(hidden, where("at"))
        outer, inner = value[1][1][2][2][1], value[1][1][3][2][2][1]
        own = value[1][1][3][3][1][0][1][0]
        self.right("at", renamed(value, own, outer), hidden)
        self.wrong("at", renamed(value, own, inner), hidden)

    def test_names_that_the_let_itself_hides(self):
        # The parameter is around the ring of p, and no nearer name around hides it there, only in the body.
        program = Program.read("define at = ( given p . let p = given y . y in let q = given y . y in 1 ) nil\ndata list 'a = nil")
        value = marked(program, where("at"))
        outer = value[1][2][2][1]
        first, then = value[1][3][1][0][1][0], value[1][3][2][1][0][1][0]
        self.assertEqual(len({outer, first, then}), 3)
        self.wrong("at", renamed(value, first, outer), program)
        self.right("at", renamed(value, then, outer), program)
        self.right("at", renamed(value, then, first), program)

    def test_needs_in_another_order_and_twice(self):
        text = "define it = let p = given x . given y . match alike x x | no = no | yes = alike y y end in p 1 \"t\""
        program = Program.read(text)
        value = marked(program, where("it"))
        (row,), body = value[1], value[2]
        one, other = row[2]
        self.assertEqual((one, other), (("same", A), ("same", B)))
        first, then = ("case", "swhole", ()), ("case", "stext", ())
        self.assertEqual(body[1][1], name("p", WHOLE, TEXT, papers=(first, then)))
        turned = changed(value, (1, 0, 2), (other, one))
        self.wrong("it", turned, program)
        turned = changed(turned, (2, 1, 1, 3), (then, first))
        self.wrong("it", turned, program)
        turned = with_kind(turned, ("given", 0, ()), ("given", "x", ()))
        turned = with_kind(with_kind(turned, ("given", 1, ()), ("given", 0, ())), ("given", "x", ()), ("given", 1, ()))
        self.right("it", turned, program)
        twice = changed(changed(value, (1, 0, 2), (one, other, one)), (2, 1, 1, 3), (first, then, first))
        self.right("it", twice, program)
        self.right("it", with_kind(twice, ("given", 0, ()), ("given", 2, ())), program)
        self.wrong("it", changed(twice, (2, 1, 1, 3), (first, then)), program)
        self.wrong("it", changed(twice, (2, 1, 1, 3), (first, then, then)), program)
        more = changed(changed(value, (1, 0, 2), (one, other, ("words", listed(A)))), (2, 1, 1, 3), (first, then, then))
        self.wrong("it", more, program)
        more = changed(changed(value, (1, 0, 2), (one, other, ("words", TRUTH))), (2, 1, 1, 3), (first, then, ("case", "wtruth", ())))
        self.right("it", more, program)

    def test_needs_of_lets_that_are_not_used(self):
        program = Program.read("define it = let p = given x . alike x x in 1")
        value = marked(program, where("it"))
        self.right("it", value, program)
        self.right("it", changed(value, (1, 0, 2), value[1][0][2] + (("same", con("zzz")), ("order", B))), program)
        for need in (("zzz", A), ("same", A, A), ("same",), ("same", "a"), None, ["same", A]):
            self.wrong("it", changed(value, (1, 0, 2), value[1][0][2] + (need,)), program)
        self.wrong("it", changed(value, (1, 0, 2), list(value[1][0][2])), program)
        self.wrong("it", changed(value, (1, 0, 2), None), program)

    def test_own_names(self):
        program = Program.read("define it = let p = given x . match alike x x | no = p x | yes = no end in p 1")
        value = marked(program, where("it"))
        at = (1, 0, 4, 3, 2, 0, 2, 1)
        self.assertEqual(get(value, at), name("p", A, papers=[("given", 0, ())]))
        for own in (
            name("p", WHOLE, papers=[("case", "swhole", ())]),
            name("p", A),
            name("p", papers=[("given", 0, ())]),
            name("p", A, papers=[("given", False, ())]),
            name("p", A, papers=[("given", 0, (), ())]),
            name("p", A, A, papers=[("given", 0, ())]),
            ("name", "p", (A,), [("given", 0, ())]),
        ):
            self.wrong("it", changed(value, at, own), program)

    def test_rings_in_their_order(self):
        value = marked(PROGRAM, where("lets"))
        outer, inner = value[3][1], value[3][2][1]
        self.assertEqual((outer[0][0], inner[0][0]), ("p", "q"))
        self.wrong("lets", changed(value, (3, 1), inner))
        self.wrong("lets", changed(value, (3, 1), outer + inner))
        self.wrong("lets", changed(value, (3,), value[3][2]))
        program = Program.read("define it = let p = given x . q x and q = given y . p y in p")
        value = marked(program, where("it"))
        rows = value[1]
        self.assertEqual([row[0] for row in rows], ["p", "q"])
        self.wrong("it", changed(value, (1,), (rows[1], rows[0])), program)
        self.wrong("it", changed(value, (1, 1, 1), rows[1][1] + ("zz",)), program)
        self.wrong("it", changed(value, (1, 1, 2), (("same", A),)), program)
        self.wrong("it", changed(value, (1,), rows[:1]), program)
        self.wrong("it", changed(value, (1,), ()), program)

    def test_less_general_lets(self):
        program = Program.read("define it = let p = given y . y in p 1")
        value = marked(program, where("it"))
        self.right("it", ("let", (("p", (), (), to(WHOLE, WHOLE), ("given", "y", WHOLE, name("y"))),), ("use", name("p"), ("whole", 1))), program)
        self.wrong("it", ("let", (("p", (), (), to(A, A), ("given", "y", A, name("y"))),), ("use", name("p"), ("whole", 1))), program)


class TestDefinitions(LookCase):
    def test_own_name(self):
        value = marked(PROGRAM, where("has"))
        at = [at for at in positions(value) if isinstance(get(value, at), tuple) and get(value, at)[:2] == ("name", "has")][0]
        self.assertEqual(get(value, at), name("has", A, papers=[("given", 0, ())]))
        for own in (name("has", WHOLE, papers=[("case", "swhole", ())]), name("has", A), name("has", A, papers=[("given", 1, ())])):
            self.wrong("has", changed(value, at, own))

    def test_another_one_of_the_ring(self):
        program = Program.read(
            "define f = given x . given y . match g x y | no = g x y | yes = no end\ndefine g = given x . given y . f x y"
        )
        value = marked(program, where("f"))
        self.assertEqual(program.scheme("f").variables, ("a", "b"))
        self.right("f", value, program)
        spots = [at for at in positions(value) if isinstance(get(value, at), tuple) and get(value, at)[:2] == ("name", "g")]
        self.assertEqual([get(value, at)[2] for at in spots], [(A, B)] * 2)
        self.wrong("f", changed(value, spots[0], name("g", A, A)), program)
        # With a part that no use determines, any kinds are right, but the same ones everywhere.
        program = Program.read(
            "define f = given x . match g x | no = g x | yes = no end\ndefine g = given x . match f 1 | no = no | yes = h nil end\n"
            "define h = given l . g 1\ndata list 'a = nil"
        )
        self.assertEqual(program.faults, ())
        value = marked(program, where("g"))
        spots = [at for at in positions(value) if isinstance(get(value, at), tuple) and get(value, at)[:2] == ("name", "h")]
        self.assertEqual(len(spots), 1)
        self.right("g", value, program)

    def test_told_ones_use_themselves_at_any_kinds(self):
        value = marked(PROGRAM, where("again"))
        spot = [at for at in positions(value) if isinstance(get(value, at), tuple) and get(value, at)[:2] == ("name", "again")][0]
        self.assertEqual(get(value, spot), name("again", listed(A), papers=[("case", "slist", (("given", 0, ()),))]))
        self.wrong("again", changed(value, spot, name("again", A, papers=[("given", 0, ())])))

    def test_members(self):
        row = ("case", "zerop", "blank")
        value = marked(PROGRAM, row)
        # The case has the variables a and b, so the own one of the member is c.
        self.assertEqual(value[2], C)
        self.assertIs(is_marked(PROGRAM, row, value), True)
        for kind in (A, B, D, WHOLE):
            self.assertIs(is_marked(PROGRAM, row, with_kind(value, C, kind)), False)
        row = ("role", "zeros", "blank")
        value = marked(PROGRAM, row)
        self.assertEqual(value[2], B)
        self.assertIs(is_marked(PROGRAM, row, value), True)
        self.assertIs(is_marked(PROGRAM, row, with_kind(value, B, A)), False)
        row = ("case", "mapp", "over")
        value = marked(PROGRAM, row)
        self.assertEqual(value[2], to(A, B))
        self.assertIs(is_marked(PROGRAM, row, value), True)
        self.assertIs(is_marked(PROGRAM, row, renamed(renamed(renamed(value, "a", "z"), "b", "a"), "z", "b")), False)
        row = ("role", "turns", "into")
        self.assertIs(is_marked(PROGRAM, row, marked(PROGRAM, row)), True)
        self.assertIs(is_marked(PROGRAM, where("has"), marked(PROGRAM, row)), False)

    def test_marks_of_members(self):
        value = marked(PROGRAM, where("zeroes"))
        spot = [at for at in positions(value) if isinstance(get(value, at), tuple) and get(value, at)[:2] == ("member", "blank")][0]
        right = ("member", "blank", (WHOLE,), ("case", "zerow", ()), (TEXT,), (("case", "wtext", ()), ("case", "stext", ())))
        self.assertEqual(get(value, spot), right)
        for k, part in (
            (1, "zero"),
            (2, (TEXT,)),
            (2, ()),
            (2, (WHOLE, TEXT)),
            (2, [WHOLE]),
            (3, ("case", "zerop", ())),
            (3, None),
            (4, (WHOLE,)),
            (4, ()),
            (4, (TEXT, TEXT)),
            (5, right[5][:1]),
            (5, right[5] + right[5][:1]),
            (5, right[5][::-1]),
            (5, list(right[5])),
        ):
            self.wrong("zeroes", changed(value, spot, right[:k] + (part,) + right[k + 1 :]))
        self.wrong("zeroes", changed(value, spot, right[:5]))
        self.wrong("zeroes", changed(value, spot, right + ((),)))


class TestAnyValue(LookCase):
    JUNK = (
        None,
        True,
        False,
        0,
        1,
        10**99,
        "a",
        "whole",
        (),
        ("a",),
        [],
        {},
        (((),),),
        ("var", "a"),
        ("con", "zzz"),
        ("con", "whole"),
        ("hole",),
        ("given", True, ()),
        ("name", "x", (), ()),
        ("same", ("con", "whole")),
        ("case", "swhole", ()),
        PROGRAM,
    )

    def test_in_any_place(self):
        for row in wheres(PROGRAM):
            if row[0] == "case" and row[1] not in ("mapp", "zerop", "struth"):
                continue
            value = marked(PROGRAM, row)
            spots = list(positions(value))
            for k, at in enumerate(spots):
                for junk in self.JUNK[k % 5 :: 5]:
                    self.agrees(row, changed(value, at, junk))
                other = get(value, spots[(7 * k) % len(spots)])
                self.agrees(row, changed(value, at, other))

    def agrees(self, row, value):
        try:
            check_marked(PROGRAM, row, value)
            told = True
        except Wrong:
            told = False
        self.assertIs(is_marked(PROGRAM, row, value), told, (row, value))

    def test_random_names_and_kinds(self):
        count = 0
        chance = random.Random(5)
        for row in wheres(PROGRAM):
            value = marked(PROGRAM, row)
            for _ in range(20):
                words = [chance.choice("abcdefgh") for _ in range(2)]
                self.agrees(row, renamed(value, *words))
                kind = chance.choice([WHOLE, A, con("zzz"), listed(B)])
                more = with_kind(value, var(chance.choice("abcdefgh")), kind)
                self.agrees(row, more)
                count += more != value and is_marked(PROGRAM, row, more)
        self.assertGreater(count, 3)

    def test_wholes_are_no_truths(self):
        program = Program.read("define it = plus 1 0")
        value = marked(program, where("it"))
        self.right("it", value, program)
        self.wrong("it", ("use", ("use", value[1][1], ("whole", True)), ("whole", 0)), program)
        self.wrong("it", ("use", value[1], ("whole", False)), program)
        self.wrong("it", ("use", value[1], ("text", "0")), program)

    def test_deep_values(self):
        kind = A
        for _ in range(245):
            kind = ("apply", con("list"), kind)
        value = marked(PROGRAM, where("vague"))
        self.assertTrue(is_marked(PROGRAM, where("vague"), with_kind(value, A, kind)))
        rows = ()
        for _ in range(248):
            rows = (rows,)
        self.wrong("vague", rows)
        self.wrong("vague", ("let", rows, rows))

    def test_errors(self):
        bad = Program.read("define it = bad\ndefine bad = plus yes\ndefine ok = 1")
        for value in (where("ok"), where("zzz"), None):
            with self.assertRaises(Faulty) as caught:
                is_marked(bad, value, None)
            self.assertEqual(caught.exception.where, where("it"))
        for value in (where("zzz"), ("role", "zeros", "zero"), ("case", "zerow", "blank"), ("definition",), None, "has", ["definition", "has"], 7, PROGRAM):
            with self.assertRaises(UnknownName) as caught:
                is_marked(PROGRAM, value, None)
            self.assertIs(caught.exception.value, value)
        self.assertTrue(is_marked(program=PROGRAM, where=where("has"), value=marked(PROGRAM, where("has"))))


if __name__ == "__main__":
    unittest.main()
