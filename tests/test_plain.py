"""Runs with kinds: points 70, 71, 78 and 79."""

import unittest

from leastneeds.errors import Faulty, InvalidLimit, NoDefinition, NotClosed
from leastneeds.plain import Outcome, events, run
from leastneeds.program import Program
from leastneeds.values import is_of, is_value, parts_of

BASE = """data list 'a = nil | cons 'a ( list 'a )
data pair 'a 'b = two 'a 'b
derive slist : same list
derive olist : order list
derive wlist : words list
derive spair : same pair
role zeros 'a
member zero : 'a
member blank : 'b -> 'a -> text if words 'b = given x . given y . join "<" ( shown x )
case zerow : zeros whole
as zero = 0
case zerop : zeros ( pair 'a 'b ) if zeros 'a , zeros 'b
as zero = two zero zero
as blank = given x . given y . join ( shown x ) ">"
role turns 'a 'b settles 0 1
member turn : 'a -> 'b
case turnw : turns whole text
as turn = spell
case turnl : turns ( list 'a ) ( pair 'a whole )
as turn = given l . match l | cons h t = two h ( count t ) | nil = turn l end
define count = given l . match l | nil = 0 | cons h t = plus 1 ( count t ) end
define long : whole -> list whole = given n . match equal n 0 | no = cons n ( long ( minus n 1 ) ) | yes = nil end
define loop : whole -> whole = given x . plus 1 ( loop x )
define fresh : whole -> whole = given x . let y = plus x in y ( y 1 )"""


def based(*lines):
    return Program.read("\n".join((BASE,) + lines))


def whole(number):
    return ("whole", number)


def made(name, *values):
    return ("made", name, values)


NO, YES, NIL = made("no"), made("yes"), made("nil")
FUNCTION = ("function",)


class RunCase(unittest.TestCase):
    def runs(self, term, value, *told, lines=()):
        """A term comes to a value by these events, each written as a word and a name."""
        program = based(*lines, f"define it = {term}")
        self.assertEqual(program.faults, ())
        found = run(program, "it")
        self.assertEqual((found.ending, found.result), ("value", value))
        self.assertEqual(list(events(program, "it")), [tuple(row.split(" ")) if " " in row else (row, "") for row in told])
        self.assertTrue(is_value(value) and is_of(program, value, program.scheme("it").kind))
        return found


class TestEvents(RunCase):
    def test_none(self):
        self.runs("7", whole(7))
        self.runs('"a b"', ("text", "a b"))
        self.runs("given x . plus x 1", FUNCTION)
        self.runs("plus", FUNCTION)
        self.runs("plus 1", FUNCTION)
        self.runs("yes", YES)
        self.runs("cons 1", FUNCTION)
        self.runs("cons 1 nil", made("cons", whole(1), NIL))
        self.runs("two ( given x . plus x 1 ) join", made("two", FUNCTION, FUNCTION))
        self.runs("let x = plus 1 in 1", whole(1))

    def test_each_one(self):
        self.runs("( given x . x ) 1", whole(1), "body")
        self.runs("match yes | no = 1 | yes = 2 end", whole(2), "arm yes")
        self.runs("plus 1 2", whole(3), "do plus")
        self.runs("let x = 1 in x", whole(1), "name x")
        self.runs("fresh", FUNCTION, "name fresh")
        self.runs("alike 1 2", NO, "member alike", "do equal")
        self.runs("alike yes no", NO, "member alike", "body", "body", "arm yes")
        self.runs("spell 12", ("text", "12"), "do spell")

    def test_the_example(self):
        program = Program.read("data pair 'a 'b = two 'a 'b\ndefine it = let t = plus 1 in two ( t 1 ) ( alike 2 3 )")
        found = run(program, "it")
        self.assertEqual(found.result, ("made", "two", (("whole", 2), ("made", "no", ()))))
        self.assertEqual(found.steps, 4)
        self.assertEqual(list(events(program, "it")), [("name", "t"), ("do", "plus"), ("member", "alike"), ("do", "equal")])

    def test_function_ahead_of_argument(self):
        term = "( match yes | no = plus | yes = minus end ) ( plus 1 2 ) ( times 2 3 )"
        self.runs(term, whole(-3), "arm yes", "do plus", "do times", "do minus")
        self.runs("( let f = given x . x in f ) ( alike 1 1 )", YES, "name f", "member alike", "do equal", "body")
        self.runs("( given x . 7 ) ( plus 1 1 )", whole(7), "do plus", "body")

    def test_arms(self):
        self.runs("match cons 1 nil | nil = 0 | cons h t = h end", whole(1), "arm cons")
        self.runs("match two 1 ( cons 2 nil ) | two a b = match b | nil = a | cons h t = minus a h end end", whole(-1), "arm two", "arm cons", "do minus")

    def test_nearest_names(self):
        self.runs("( given x . ( given x . x ) 2 ) 1", whole(2), "body", "body")
        self.runs("( given count . count ) 1", whole(1), "body")
        self.runs("let plus = minus in plus 1 2", whole(-1), "name plus", "do minus")
        self.runs("match two 1 2 | two no yes = yes end", whole(2), "arm two")
        self.runs("( given x . let x = 2 in x ) 1", whole(2), "body", "name x")

    def test_scopes_where_terms_stand(self):
        self.runs("( given x . let y = plus x in ( given x . y x ) 10 ) 1", whole(11), "body", "body", "name y", "do plus")
        term = "let f = given x . given y . two x y in let g = f 1 in two ( g 2 ) ( g 3 )"
        value = made("two", made("two", whole(1), whole(2)), made("two", whole(1), whole(3)))
        self.runs(term, value, "name g", "name f", "body", "body", "name g", "name f", "body", "body")

    def test_names_are_evaluated_anew(self):
        told = ["name fresh", "body", "name y", "name y", "do plus", "do plus"]
        self.runs("fresh 3", whole(7), *told)
        self.runs("let s = plus 1 1 in times s s", whole(4), "name s", "do plus", "name s", "do plus", "do times")
        self.runs("plus one one", whole(4), "name one", "do plus", "name one", "do plus", "do plus", lines=["define one = plus 1 1"])

    def test_rings(self):
        term = "let even = given n . match equal n 0 | no = odd ( minus n 1 ) | yes = yes end and odd = given n . match equal n 0 | no = even ( minus n 1 ) | yes = no end in even 1"
        one = ["body", "do equal", "arm no", "name odd", "do minus", "body", "do equal", "arm yes"]
        self.runs(term, NO, "name even", *one)

    def test_functions_that_lack_arguments(self):
        self.runs("( given f . two ( f 1 ) ( f 2 ) ) ( plus 10 )", made("two", whole(11), whole(12)), "body", "do plus", "do plus")
        self.runs("( given f . two ( f nil ) ( f ( cons 1 nil ) ) ) ( cons 5 )", made("two", made("cons", whole(5), NIL), made("cons", whole(5), made("cons", whole(1), NIL))), "body")
        self.runs("let c = cons in two ( c 1 ) ( c 2 nil )", made("two", FUNCTION, made("cons", whole(2), NIL)), "name c", "name c")


class TestMembers(RunCase):
    def test_cases(self):
        self.runs("alike ( cons 1 nil ) ( cons 1 nil )", YES, *"member alike,body,body,arm cons,arm cons,member alike,do equal,arm yes,member alike,body,body,arm nil,arm nil".split(","))
        self.runs('alike "a" "b"', NO, "member alike", "do eqtext")
        self.runs("atmost 2 1", NO, "member atmost", "do upto")
        self.runs("shown 7", ("text", "7"), "member shown", "do spell")
        self.runs('shown "x"', ("text", "x"), "member shown", "body")

    def test_results_alone(self):
        self.runs("plus zero 1", whole(1), "member zero", "do plus")
        self.runs("match zero | two a b = plus a ( match b | two c d = plus c d end ) end", whole(0), *"member zero,member zero,member zero,member zero,member zero,arm two,arm two,do plus,do plus".split(","))

    def test_defaults(self):
        self.runs("blank 1 2", ("text", "<1"), *"member blank,body,body,member shown,do spell,do join".split(","))
        self.runs("blank yes ( two 1 2 )", ("text", "yes>"), *"member blank,body,body,member shown,body,arm yes,do join".split(","))

    def test_settled_kinds(self):
        self.runs("turn 12", ("text", "12"), "member turn", "do spell")
        term = "turn ( cons yes ( cons no nil ) )"
        told = "member turn,body,arm cons,name count,body,arm cons,name count,body,arm nil,do plus"
        self.runs(term, made("two", YES, whole(1)), *told.split(","))

    def test_kinds_of_the_case(self):
        # The members of the parts are taken at the kinds for which the variables of the case stand.
        term = 'alike ( two ( cons 1 nil ) "a" ) ( two ( cons 1 nil ) "b" )'
        told = "member alike,body,body,arm two,arm two,member alike,body,body,arm cons,arm cons,member alike,do equal,arm yes"
        told += ",member alike,body,body,arm nil,arm nil,arm yes,member alike,do eqtext"
        self.runs(term, NO, *told.split(","))

    def test_kinds_of_definitions_and_lets(self):
        lines = ["define twice = given x . alike x x"]
        self.runs("two ( twice 1 ) ( twice yes )", made("two", YES, YES), *"name twice,body,member alike,do equal,name twice,body,member alike,body,body,arm yes".split(","), lines=lines)
        term = "let f = given x . let g = given y . two ( shown x ) ( shown y ) in g yes in two ( f 1 ) ( f \"a\" )"
        value = made("two", made("two", ("text", "1"), ("text", "yes")), made("two", ("text", "a"), ("text", "yes")))
        program = based(f"define it = {term}")
        self.assertEqual(run(program, "it").result, value)

    def test_own_kinds_of_members(self):
        lines = [
            "role holds 'f",
            "member held : 'b -> 'f 'b -> text if words 'b",
            "case holdl : holds list",
            "as held = given x . given l . join ( shown x ) ( shown l )",
            "case holdp : holds ( pair 'b )",
            "as held = given x . given p . match p | two a b = join ( shown x ) ( shown b ) end",
        ]
        program = based(*lines, "define it = two ( held 1 ( cons 2 nil ) ) ( held yes ( two 1 no ) )")
        self.assertEqual(run(program, "it").result, made("two", ("text", "1cons (2) (nil)"), ("text", "yesno")))

    def test_recursion_at_greater_kinds(self):
        lines = ["define deep : 'a -> whole -> text if words 'a = given x . given n . match equal n 0 | no = deep ( cons x nil ) ( minus n 1 ) | yes = shown x end"]
        program = based(*lines, "define it = deep 1 3")
        self.assertEqual(run(program, "it").result, ("text", "cons (cons (cons (1) (nil)) (nil)) (nil)"))

    def test_kinds_as_deep_as_runs(self):
        lines = [
            "define deep : 'a -> whole -> truth if order 'a = given x . given n . match equal n 0 "
            "| no = match cons x nil | nil = no | cons h t = deep t ( minus n 1 ) end | yes = alike x x end"
        ]
        # The kind is nested 281 deep at last.
        program = based(*lines, "define it = deep 1 280")
        found = run(program, "it", limit=2000)
        self.assertEqual((found.ending, found.result), ("value", YES))


class TestLimits(RunCase):
    def test_just_enough(self):
        program = based("define it = fresh 3")
        every = list(events(program, "it"))
        self.assertEqual(len(every), 6)
        for limit in range(6):
            found = run(program, "it", limit=limit)
            self.assertEqual((found.ending, found.result, found.steps), ("limit", None, limit))
            self.assertEqual(list(events(program, "it", limit=limit)), every[:limit])
            counts = {word: [row[0] for row in every[:limit]].count(word) for word in ("arm", "body", "do", "member", "name")}
            self.assertEqual(found.counts, counts)
        for limit in (6, 7, 2000):
            self.assertEqual(run(program, "it", limit=limit).result, whole(7))
        self.assertEqual(run(based("define it = 7"), "it", limit=0).result, whole(7))

    def test_endless_runs(self):
        program = based("define it = loop 1", "define at = at")
        found = run(program, "it")
        self.assertEqual((found.ending, found.steps), ("limit", 1000))
        found = run(program, "it", limit=2000)
        self.assertEqual((found.ending, found.steps), ("limit", 2000))
        self.assertEqual(found.counts, {"arm": 0, "body": 1000, "do": 0, "member": 0, "name": 1000})
        # The kind of `at` has a variable.
        with self.assertRaises(NotClosed):
            run(program, "at")
        every = events(program, "it", limit=2000)
        self.assertEqual([next(every) for _ in range(3)], [("name", "loop"), ("body", ""), ("name", "loop")])

    def test_as_deep_as_steps(self):
        program = based("define down : whole -> whole = given n . match equal n 0 | no = plus 1 ( down ( minus n 1 ) ) | yes = 0 end", "define it = down 300")
        self.assertEqual(run(program, "it", limit=2000).result, whole(300))

    def test_invalid_limits(self):
        program = based("define it = 7")
        for limit in (-1, 2001, True, False, None, "1", 10**99, (), [], {}, program):
            with self.assertRaises(InvalidLimit) as caught:
                run(program, "it", limit=limit)
            self.assertIs(caught.exception.limit, limit)
            found = events(program, "it", limit=limit)
            with self.assertRaises(InvalidLimit):
                next(found)

    def test_great_by_parts(self):
        # Sixteen lists with n things in all have 21 + 2n parts together with the bags around them.
        lines = ["data bag 'a = bag 'a 'a 'a 'a", "data opt 'a = some 'a"]
        for number, outer, many in ((39, "some", 1000), (40, "", 1001), (40, "some", 1002), (39, "", 999)):
            term = "given l . given m . given b . %s ( bag b b b ( bag l l l m ) )" % outer if outer else "given l . given m . given b . bag b b b ( bag l l l m )"
            term = f"( given l . ( {term} ) l ( long {number} ) ( bag l l l l ) ) ( long 30 )"
            found = run(based(*lines, f"define it = {term}"), "it")
            self.assertEqual(found.ending, "value" if many <= 1000 else "great")
            if many <= 1000:
                self.assertEqual(parts_of(found.result), many)
                self.assertTrue(is_value(found.result))
            else:
                self.assertIsNone(found.result)

    def test_great_by_depth(self):
        program = based("define it = long 99", "define at = long 100", "define by = count ( long 100 )")
        found = run(program, "it", limit=2000)
        self.assertEqual(found.ending, "value")
        self.assertEqual(parts_of(found.result), 199)
        self.assertTrue(is_value(found.result))
        for name in ("at", "by"):
            found = run(program, name, limit=2000)
            self.assertEqual((found.ending, found.result), ("great", None))
        # No step is done where the value would be made.
        steps = run(program, "at", limit=2000).steps
        self.assertEqual(len(list(events(program, "at", limit=2000))), steps)
        self.assertEqual(run(program, "at", limit=steps).ending, "great")
        self.assertEqual(run(program, "at", limit=steps - 1).ending, "limit")


class TestOutcomes(RunCase):
    def test_counts(self):
        program = based("define it = alike ( cons 1 nil ) ( cons 1 nil )")
        found = run(program, "it")
        self.assertEqual(found.counts, {"arm": 5, "body": 4, "do": 1, "member": 3, "name": 0})
        self.assertEqual(found.steps, 13)
        found.counts["arm"] = 99
        found.counts.clear()
        self.assertEqual(found.counts["arm"], 5)
        self.assertIsNot(found.counts, found.counts)
        self.assertIsInstance(found, Outcome)

    def test_equality(self):
        program = based("define it = plus 1 1", "define at = minus 3 1", "define by = plus 2 1", "define on = spell 2")
        self.assertTrue(run(program, "it") == run(program, "it"))
        # Events are no properties: only their numbers are.
        self.assertTrue(run(program, "it") == run(program, "at"))
        self.assertFalse(run(program, "it") == run(program, "by"))
        self.assertFalse(run(program, "it") == run(program, "on"))
        self.assertFalse(run(program, "it") == run(program, "it", limit=0))
        self.assertTrue(run(program, "it", limit=0) == run(program, "by", limit=0))
        self.assertFalse(run(program, "it") == whole(2))
        self.assertFalse(run(program, "it") == None)
        self.assertTrue(run(program, "it") != run(program, "by"))

    def test_properties(self):
        found = run(based("define it = 7"), name="it")
        self.assertEqual((found.ending, found.result, found.steps), ("value", whole(7), 0))
        self.assertEqual(found.counts, {"arm": 0, "body": 0, "do": 0, "member": 0, "name": 0})


class TestErrors(RunCase):
    def raised(self, error, program, name, limit=1000):
        with self.assertRaises(error) as caught:
            run(program, name, limit=limit)
        found = events(program, name, limit=limit)
        with self.assertRaises(error):
            next(found)
        return caught.exception

    def test_order(self):
        bad = based("define it = given x . x", "define at = plus yes", "define ok = 1 2")
        for name in ("zzz", "plus", "alike", "yes", None, True, 7, (), [], {}, ("definition", "it"), bad):
            self.assertIs(self.raised(NoDefinition, bad, name, None).word, name)
        self.assertEqual(self.raised(Faulty, bad, "it", None).where, ("definition", "at"))
        program = based("define it = given x . x", "define at = nil", "define by = alike 1", "define on : 'a -> 'a = given x . x")
        for name in ("it", "at", "on"):
            self.assertEqual(self.raised(NotClosed, program, name, None).word, name)
        self.assertIsNone(self.raised(InvalidLimit, program, "by", None).limit)

    def test_faults_of_others(self):
        bad = based("case zerot : zeros text", "as zero = 1", "define it = 1")
        self.assertEqual(self.raised(Faulty, bad, "it").where, ("case", "zerot", "zero"))

    def test_when_events_raise(self):
        program = based("define it = 1")
        found = events(program, "zzz")
        with self.assertRaises(NoDefinition):
            list(found)
        self.assertEqual(list(events(program=program, name="it", limit=5)), [])


if __name__ == "__main__":
    unittest.main()
