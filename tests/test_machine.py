"""Compiled programs: points 73 and 74."""

import itertools
import unittest

from leastneeds.errors import Faulty, InvalidLimit, InvalidMarked, NoDefinition, NotClosed, UnknownName
from leastneeds.kinds import con
from leastneeds.machine import Compiled
from leastneeds.marked import marked
from leastneeds.plain import Outcome, events, run
from leastneeds.program import Program
from leastneeds.ways import ways

from marks import wheres
from samples import A, TEXT, TRUTH, WHOLE, listed

TEXT_OF_PROGRAM = """data list 'a = nil | cons 'a ( list 'a )
data pair 'a 'b = two 'a 'b
derive slist : same list
derive olist : order list
derive wlist : words list
derive spair : same pair
derive opair : order pair
role turns 'a 'b settles 0 1
member turn : 'a -> 'b
member into : 'c -> 'a -> text if words 'c , same 'a = given x . given y . match alike y y | no = "" | yes = shown x end
case turnw : turns whole text
as turn = spell
case turnl : turns ( list 'a ) ( pair 'a whole ) if words 'a
as turn = given l . match l | cons h t = two h ( size ( shown h ) ) | nil = turn l end
as into = given x . given l . match l | cons h t = join ( shown h ) ( shown x ) | nil = shown x end
role zeros 'a
member zero : 'a
case zerow : zeros whole
as zero = 0
case zerop : zeros ( pair 'a 'b ) if zeros 'a , zeros 'b
as zero = two zero zero
define has = given x . given l . match l | nil = no | cons h t = match alike x h | no = has x t | yes = yes end end
define both : 'a -> truth if same 'a , order 'a = given x . match alike x x | no = no | yes = atmost x x end
define inner : list 'a -> truth if order ( list 'a ) = given x . match x | nil = no | cons h t = alike h h end
define deep : 'a -> whole -> truth if order 'a = given x . given n . match equal n 0 | no = deep ( cons x nil ) ( minus n 1 ) | yes = alike x x end
define lets = given x . let p = given y . match alike y x | no = p y | yes = shown y end in p x
define pairs : 'a -> pair 'a ( pair 'a whole ) if zeros 'a = given x . zero
define odd = given n . match equal n 0 | no = even ( minus n 1 ) | yes = no end
define even = given n . match equal n 0 | no = odd ( minus n 1 ) | yes = yes end
define ra = has 2 ( cons 1 ( cons 2 nil ) )
define rb = has ( two 1 "a" ) ( cons ( two 1 "b" ) ( cons ( two 1 "a" ) nil ) )
define rc = both ( cons yes nil )
define rd = inner ( cons 1 nil )
define re = deep "a" 5
define rf = lets ( cons 1 nil )
define rg = pairs 7
define rh = odd 7
define ri = into yes 1
define rj = into yes ( cons 1 nil )
define rk = turn ( cons 12 nil )
define rl = let f = given x . alike x x in let g = given x . f ( cons x nil ) in two ( g 1 ) ( two ( g yes ) ( f "a" ) )
define rm = given x . plus x zero
define rn : truth = atmost ( two ( cons 1 nil ) "a" ) ( two ( cons 1 nil ) "b" )
define ro = deep ( two 1 yes ) 2000"""
PROGRAM = Program.read(TEXT_OF_PROGRAM)
CLOSED = ["r" + letter for letter in "abcdefghijklmno"]


def where(name):
    return ("definition", name)


def use(function, *arguments):
    for argument in arguments:
        function = ("use", function, argument)
    return function


class TestTerms(unittest.TestCase):
    def compiles(self, term, told, *lines):
        program = Program.read("\n".join((TEXT_OF_PROGRAM,) + lines + (f"define it = {term}",)))
        self.assertEqual(Compiled(program).term_at(where("it")), told)

    def test_each_form(self):
        self.compiles("7", ("whole", 7))
        self.compiles('"a"', ("text", "a"))
        self.compiles("plus", ("name", "plus", ()))
        self.compiles("nil", ("name", "nil", ()))
        self.compiles("alike", ("member", "alike", ("given", 0, ()), ()))
        self.compiles("given x . x", ("given", "x", ("name", "x", ())))
        equal = ("member", "alike", ("case", "swhole", ()), ())
        self.compiles("alike 1", use(equal, ("whole", 1)))
        self.compiles("ra", ("name", "ra", ()))
        self.compiles("has 1", use(("name", "has", (("case", "swhole", ()),)), ("whole", 1)))
        body = ("match", ("name", "x", ()), (("nil", (), ("whole", 0)), ("cons", ("h", "t"), ("name", "h", ()))))
        self.compiles("given x . match x | nil = 0 | cons h t = h end", ("given", "x", body))
        into = ("member", "into", ("case", "turnw", ()), (("case", "wtruth", ()), ("case", "swhole", ())))
        self.compiles("into yes 1", use(into, ("name", "yes", ()), ("whole", 1)))

    def test_lets(self):
        own = ("given", "y", use(("member", "alike", ("given", 0, ()), ()), ("name", "y", ()), ("name", "y", ())))
        body = use(("name", "p", (("case", "swhole", ()),)), ("whole", 1))
        self.compiles("let p = given y . alike y y in p 1", ("let", (("p", 1, own),), body))
        self.compiles("let p = 1 and q = 2 in p", ("let", (("p", 0, ("whole", 1)),), ("let", (("q", 0, ("whole", 2)),), ("name", "p", ()))))

    def test_all_of_them(self):
        machine = Compiled(PROGRAM)
        self.assertIs(machine.program, PROGRAM)
        for row in wheres(PROGRAM):
            self.assertEqual(machine.term_at(row), machine.term_at(row))
        self.assertEqual(machine.term_at(where=("case", "swhole", "alike")), ("name", "equal", ()))
        self.assertEqual(machine.term_at(("case", "wtext", "shown")), ("given", "x", ("name", "x", ())))
        default = machine.term_at(("role", "turns", "into"))
        # The needs there are that of the role, then those of the member.
        y = ("name", "y", ())
        alike = use(("member", "alike", ("given", 2, ()), ()), y, y)
        shown = use(("member", "shown", ("given", 1, ()), ()), ("name", "x", ()))
        arms = (("no", (), ("text", "")), ("yes", (), shown))
        self.assertEqual(default, ("given", "x", ("given", "y", ("match", alike, arms))))

    def test_any_value_as_a_where(self):
        machine = Compiled(PROGRAM)
        for value in (where("zzz"), ("case", "turnw", "into"), ("role", "turns", "turn"), ("case", "zzz", "turn"), "ra", None, True, 7, (), [], {}, ["definition", "ra"], machine):
            with self.assertRaises(UnknownName) as caught:
                machine.term_at(value)
            self.assertIs(caught.exception.value, value)


class TestGivenTerms(unittest.TestCase):
    def test_they_are_taken(self):
        for row in (where("both"), ("case", "olist", "atmost"), ("role", "turns", "into"), ("case", "zerop", "zero")):
            for value in itertools.islice(ways(PROGRAM, row), 5):
                machine = Compiled(PROGRAM, (row, value))
                other = Compiled(PROGRAM)
                self.assertEqual(machine.term_at(row) == other.term_at(row), value == marked(PROGRAM, row))
                self.assertEqual(machine.term_at(where("ra")), other.term_at(where("ra")))
        row, other = where("both"), where("lets")
        last = list(ways(PROGRAM, row))[-1]
        machine = Compiled(PROGRAM, (other, marked(PROGRAM, other)), (row, last))
        self.assertEqual(machine.term_at(row)[2][1][1][1][2], ("given", 1, (("above", 0),)))

    def test_other_kinds_and_needs(self):
        program = Program.read(
            "define it = let p = given x . match alike x x | no = shown x | yes = \"t\" end in p 1\ndefine at = let q = given y . shown y in 7"
        )
        value = marked(program, where("it"))
        (row,) = value[1]
        name, variables, needs, kind, term = row
        more = ("let", ((name, variables, needs + needs[:1] + (("order", TRUTH),), kind, term),), value[2])
        papers = value[2][1][3]
        more = more[:2] + (("use", ("name", "p", (WHOLE,), papers + papers[:1] + (("case", "otruth", ()),)), ("whole", 1)),)
        machine = Compiled(program, (where("it"), more))
        self.assertEqual(machine.term_at(where("it"))[1][0][1], 4)
        self.assertEqual(machine.run("it"), run(program, "it"))
        other = marked(program, where("at"))
        # What is not used may have kinds that are not declared.
        odd = ("let", (("q", (), (("words", con("zzz")),), ("apply", ("apply", con("to"), con("zzz")), TEXT), ("given", "y", con("zzz"), ("use", ("member", "shown", (con("zzz"),), ("given", 0, ()), (), ()), ("name", "y", (), ())))),), other[2])
        self.assertEqual(Compiled(program, (where("at"), odd)).run("at"), run(program, "at"))

    def test_wrong_ones(self):
        row = where("ra")
        value = marked(PROGRAM, row)
        other = where("rb")
        for term in (
            None,
            True,
            7,
            "ra",
            (),
            {},
            [row, value],
            (row,),
            (row, value, value),
            (row, marked(PROGRAM, other)),
            (other, value),
            (where("zzz"), value),
            ("ra", value),
            (list(row), value),
            (row, None),
            (row, list(value)),
            (row, PROGRAM.definition_named("ra").term),
            (row, Compiled(PROGRAM).term_at(row)),
            PROGRAM,
        ):
            with self.assertRaises(InvalidMarked) as caught:
                Compiled(PROGRAM, term)
            self.assertEqual(caught.exception.index, 0)
            with self.assertRaises(InvalidMarked) as caught:
                Compiled(PROGRAM, (other, marked(PROGRAM, other)), term, None)
            self.assertEqual(caught.exception.index, 1)

    def test_the_same_where_twice(self):
        row = where("both")
        one, other = list(ways(PROGRAM, row))
        for terms in ([one, one], [one, other]):
            with self.assertRaises(InvalidMarked) as caught:
                Compiled(PROGRAM, (where("ra"), marked(PROGRAM, where("ra"))), *[(row, value) for value in terms])
            self.assertEqual(caught.exception.index, 2)

    def test_faults_first(self):
        bad = Program.read("define ok = 1\ndefine it = plus yes\ndefine at = 1 2")
        for terms in ((), (None,), ((where("ok"), ("whole", 1)),)):
            with self.assertRaises(Faulty) as caught:
                Compiled(bad, *terms)
            self.assertEqual(caught.exception.where, where("it"))


class TestRuns(unittest.TestCase):
    def same(self, machine, name, limit=1000):
        found = machine.run(name, limit=limit)
        self.assertIsInstance(found, Outcome)
        self.assertEqual(found, run(PROGRAM, name, limit=limit), name)
        self.assertEqual(list(machine.events(name, limit=limit)), list(events(PROGRAM, name, limit=limit)), name)
        return found

    def test_as_with_kinds(self):
        machine = Compiled(PROGRAM)
        self.assertEqual(PROGRAM.faults, ())
        endings = {}
        for name in CLOSED:
            for limit in (0, 1, 2, 3, 5, 8, 13, 21, 34, 55, 89, 1000, 2000):
                found = self.same(machine, name, limit)
            endings[name] = found.ending
        self.assertEqual({name for name in endings if endings[name] != "value"}, {"ro"})
        self.assertEqual(endings["ro"], "great")

    def test_with_any_papers(self):
        rows = {row: list(itertools.islice(ways(PROGRAM, row), 6)) for row in wheres(PROGRAM)}
        self.assertGreater(sum(len(values) > 1 for values in rows.values()), 1)
        for k in range(6):
            machine = Compiled(PROGRAM, *[(row, values[k % len(values)]) for row, values in rows.items()])
            for name in CLOSED:
                self.same(machine, name)

    def test_values(self):
        machine = Compiled(PROGRAM)
        yes = ("made", "yes", ())
        for name, value in (
            ("ra", yes),
            ("rb", yes),
            ("rc", yes),
            ("rd", yes),
            ("re", yes),
            ("rf", ("text", "cons (1) (nil)")),
            ("rh", ("made", "yes", ())),
            ("ri", ("text", "yes")),
            ("rj", ("text", "1yes")),
            ("rk", ("made", "two", (("whole", 12), ("whole", 2)))),
            ("rl", ("made", "two", (yes, ("made", "two", (yes, yes))))),
            ("rm", ("function",)),
        ):
            self.assertEqual(machine.run(name).result, value, name)

    def test_papers_of_each_form_are_run(self):
        machine = Compiled(PROGRAM)
        paper = machine.term_at(where("inner"))[2][2][1][2][1][1][2]
        self.assertEqual(paper, ("given", 0, (("above", 0), ("part", 0))))
        papers = machine.term_at(where("deep"))[2][2][2][0][2][1][1][2]
        self.assertEqual(papers, (("case", "olist", (("given", 0, ()),)),))
        paper = machine.term_at(where("deep"))[2][2][2][1][2][1][1][2]
        self.assertEqual(paper, ("given", 0, (("above", 0),)))
        self.assertEqual(machine.term_at(where("pairs"))[2][2], ("case", "zerop", (("given", 0, ()), ("case", "zerop", (("given", 0, ()), ("case", "zerow", ()))))))
        self.assertEqual(machine.run("rg").result, run(PROGRAM, "rg").result)
        for name in ("rd", "re", "rg"):
            self.same(machine, name)

    def test_records_as_deep_as_runs(self):
        program = Program.read(
            "data list 'a = nil | cons 'a ( list 'a )\nderive slist : same list\nderive olist : order list\n"
            "define deep : 'a -> whole -> truth if order 'a = given x . given n . match equal n 0 "
            "| no = match cons x nil | nil = no | cons h t = deep t ( minus n 1 ) end | yes = alike x x end\n"
            "define it = deep 1 280"
        )
        self.assertEqual(Compiled(program).run("it", limit=2000), run(program, "it", limit=2000))
        self.assertEqual(run(program, "it", limit=2000).ending, "value")

    def test_needs_without_variables(self):
        # Told schemes may have needs that are met from nothing: the run begins with their records.
        program = Program.read(
            "data list 'a = nil | cons 'a ( list 'a )\nderive slist : same list\nderive olist : order list\n"
            "role turns 'a 'b\nmember turn : 'a -> 'b\ncase turnw : turns whole text\nas turn = spell\n"
            "case turnl : turns ( list 'a ) ( list 'b ) if turns 'a 'b , same whole\n"
            "as turn = given l . match l | nil = nil | cons h t = match alike 1 1 | no = nil | yes = cons ( turn h ) ( turn t ) end end\n"
            "define one : truth if same whole = alike 1 2\n"
            "define two : text if same text , turns whole text , order ( list whole ) = match alike ( cons 1 nil ) nil "
            "| no = turn 7 | yes = \"\" end\n"
            "define three : list text if turns ( list whole ) ( list text ) = turn ( cons 1 ( cons 2 nil ) )\n"
            "define four = cons two three"
        )
        self.assertEqual(program.faults, ())
        machine = Compiled(program)
        texts = [("text", "1"), ("text", "2")]
        items = ("made", "nil", ())
        for text in reversed(texts):
            items = ("made", "cons", (text, items))
        told = {"one": ("made", "no", ()), "two": ("text", "7"), "three": items, "four": ("made", "cons", (("text", "7"), items))}
        for name, value in told.items():
            self.assertEqual(machine.term_at(where(name)), Compiled(program).term_at(where(name)))
            self.assertEqual(machine.run(name).result, value)
            self.assertEqual(machine.run(name), run(program, name))
            self.assertEqual(list(machine.events(name)), list(events(program, name)))
            for value in itertools.islice(ways(program, where(name)), 8):
                self.assertEqual(Compiled(program, (where(name), value)).run(name), run(program, name))

    def test_errors(self):
        machine = Compiled(PROGRAM)
        for name in ("zzz", "plus", None, True, 7, (), [], where("ra"), PROGRAM):
            with self.assertRaises(NoDefinition) as caught:
                machine.run(name, limit=None)
            self.assertIs(caught.exception.word, name)
            found = machine.events(name, limit=None)
            with self.assertRaises(NoDefinition):
                next(found)
        for name in ("has", "lets", "pairs"):
            with self.assertRaises(NotClosed) as caught:
                machine.run(name, limit=None)
            self.assertEqual(caught.exception.word, name)
            found = machine.events(name, limit=None)
            with self.assertRaises(NotClosed):
                next(found)
        for limit in (-1, 2001, True, None, "1", 10**50):
            with self.assertRaises(InvalidLimit) as caught:
                machine.run("ra", limit=limit)
            self.assertIs(caught.exception.limit, limit)
            found = machine.events("ra", limit=limit)
            with self.assertRaises(InvalidLimit):
                next(found)

    def test_first_events_ahead_of_others(self):
        found = Compiled(PROGRAM).events(name="ro", limit=2000)
        self.assertEqual([next(found), next(found)], [("name", "deep"), ("body", "")])


if __name__ == "__main__":
    unittest.main()
