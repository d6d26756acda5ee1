"""Houses: points 100 to 106."""

import random
import unittest

from leastneeds.declarations import Case, Data, Declaration, Definition, Derive, Role
from leastneeds.errors import (
    Broken,
    Faulty,
    InvalidDeed,
    InvalidGuard,
    InvalidLimit,
    InvalidPicks,
    Known,
    Missing,
    NoDefinition,
    OutOfRange,
    Repeated,
    Unknown,
    UnknownName,
)
from leastneeds.house import GuardedHouse, House
from leastneeds.kinds import con, to, var
from leastneeds.marked import marked
from leastneeds.plain import run
from leastneeds.program import Program
from leastneeds.reader import read_kind, read_scheme, read_term
from leastneeds.schemes import Scheme
from leastneeds.shapes import shapes_of

import layout
from samples import A, B, F, G, LIST, PAIR, TEXT, TRUTH, WHOLE, listed, pair

LINES = """data list 'a = nil | cons 'a ( list 'a )
data pair 'a 'b = two 'a 'b
derive slist : same list
derive wlist : words list
role zeros 'a
member zero : 'a
member blank : 'a -> text = given x . ""
role grows 'a above zeros 'a
member grow : 'a -> 'a
case zerow : zeros whole
as zero = 0
case zerop : zeros ( pair 'a 'b ) if zeros 'a , zeros 'b
as zero = two zero zero
as blank = given x . "-"
case groww : grows whole
as grow = plus zero
define one = given x . alike x x
define two2 = given x . one ( cons x nil )
define odd = given n . match equal n 0 | no = even ( minus n 1 ) | yes = no end
define even = given n . match equal n 0 | no = odd ( minus n 1 ) | yes = yes end
define size3 : list 'a -> whole = given l . match l | nil = 0 | cons h t = plus 1 ( size3 t ) end
define null : 'a -> 'a if zeros 'a = given x . zero
define start = null 1
define plain = given x . x""".replace("two2", "twice").replace("size3", "long")
PROGRAM = Program.read(LINES)


def define(name, text, told=None):
    return Definition(name, read_term(text), told=None if told is None else read_scheme(told))


def d(*names):
    return tuple([("definition", name) for name in names])


def c(case, member):
    return (("case", case, member),)


ALL = tuple(
    sorted(
        [d("one"), d("twice"), d("even", "odd"), d("long"), d("null"), d("start"), d("plain")]
        + [c("zerow", "zero"), c("zerop", "zero"), c("zerop", "blank"), c("groww", "grow"), (("role", "zeros", "blank"),)]
    )
)


class HouseCase(unittest.TestCase):
    def state(self, house):
        return (house.program, house.moment, house.undone, house.depth, house.looked, house.news)

    def refuses(self, house, error, call, **fields):
        """A call raises an error and changes nothing."""
        before = self.state(house)
        with self.assertRaises(error) as caught:
            call()
        self.assertEqual(self.state(house), before)
        self.assertIs(house.program, before[0])
        for name, value in fields.items():
            found = getattr(caught.exception, name)
            self.assertEqual(found, value)
            self.assertIs(type(found), type(value))

    def changes(self, deeds, looked, news, program=PROGRAM, marks=True):
        """Deeds lead to these groups, ascending, and to this news."""
        house = House(program)
        house.change(*deeds)
        self.checked(house, program, marks)
        self.assertEqual(house.looked, tuple(sorted(looked)))
        self.assertEqual(house.news, tuple(sorted(news)))
        return house

    def checked(self, house, before, marks=True):
        after = house.program
        self.assertEqual(house.looked, layout.looked(before, after))
        self.assertEqual(house.news, layout.news(before, after))
        for group in layout.groups(after):
            if group not in house.looked:
                for where in group:
                    self.same_told(before, after, where, marks)

    def same_told(self, before, after, where, marks):
        """What a group that is not looked at tells is unchanged."""
        self.assertEqual(before.fault(where), after.fault(where))
        if where[0] == "definition" and after.fault(where) is None:
            self.assertEqual(before.scheme(where[1]), after.scheme(where[1]))
        # In marks schemes are told with their names and orders, too.
        if marks and before.is_right and after.is_right:
            self.assertEqual(marked(before, where), marked(after, where))


class TestBeginning(HouseCase):
    def test_properties(self):
        house = House(PROGRAM)
        self.assertIs(house.program, PROGRAM)
        self.assertEqual(self.state(house)[1:], (0, 0, 0, ALL, ()))
        self.assertEqual(House(program=Program()).looked, ())
        self.assertEqual(layout.groups(PROGRAM), ALL)

    def test_what_the_program_tells(self):
        house = House(PROGRAM)
        self.assertEqual(house.scheme("one"), read_scheme("'a -> truth if same 'a"))
        self.assertEqual(house.scheme(name="cons"), PROGRAM.scheme("cons"))
        self.assertIsNone(house.fault(("definition", "one")))
        self.assertIsNone(house.fault(where=("case", "swhole", "alike")))
        self.assertEqual(house.run("start"), run(PROGRAM, "start"))
        self.assertEqual(house.run(name="start", limit=1), run(PROGRAM, "start", limit=1))
        house.change(("put", define("bad", "plus yes")))
        self.assertEqual(house.fault(("definition", "bad")), ("unfit", (1,)))
        with self.assertRaises(Faulty):
            house.scheme("bad")
        with self.assertRaises(Faulty):
            house.run("start")
        for call, error in (
            (lambda: house.scheme("zzz"), UnknownName),
            (lambda: house.fault("zzz"), UnknownName),
            (lambda: house.run("zzz"), NoDefinition),
            (lambda: House(PROGRAM).run("start", limit=True), InvalidLimit),
        ):
            self.refuses(house, error, call)

    def test_groups(self):
        program = Program.read(
            "define aa = bb\ndefine bb = aa\ndefine cc : whole = dd\ndefine dd : whole = cc\ndefine ee = ee\n"
            "role pick 'a\nmember picked : 'a = picked\nmember taken : 'a\nderive dsame : same truth2\ndata truth2 = maybe".replace("truth2", "maybes")
        )
        told = [d("aa", "bb"), d("cc"), d("dd"), d("ee"), (("role", "pick", "picked"),)]
        self.assertEqual(House(program).looked, tuple(sorted(told)))


class TestDeeds(HouseCase):
    def names(self, house):
        return [row.name for row in house.program.declarations]

    def test_each_one(self):
        house = House(PROGRAM)
        first = self.names(house)
        house.change(("put", define("new", "one 1")))
        self.assertEqual(self.names(house), first + ["new"])
        house.change(("replace", define("one", "given x . x")))
        self.assertEqual(self.names(house), first + ["new"])
        self.assertEqual(house.program.definition_named("one").term, read_term("given x . x"))
        house.change(("take", ("definition", "new")))
        self.assertEqual(self.names(house), first)
        house.change(("picks", [WHOLE, TEXT]))
        self.assertEqual(house.program.picks, (WHOLE, TEXT))
        house.change(("picks", ()))
        self.assertEqual(house.program.picks, ())
        self.assertEqual((house.moment, house.undone), (5, 0))

    def test_keys(self):
        house = House(PROGRAM)
        place = self.names(house).index("slist")
        own = Case("slist", "same", [listed(A)], [("alike", read_term("given x . given y . yes"))])
        house.change(("replace", own))
        self.assertEqual(house.program.declarations[place], own)
        house.change(("replace", Derive("slist", "same", "list")))
        self.assertEqual(house.program, PROGRAM)
        house.change(("take", ("case", "wlist")))
        self.assertNotIn("wlist", self.names(house))
        # The four words have keys of their own.
        house.change(("put", Role("one", ("a",), [("only", A, (), None)])), ("put", Data("one", (), (("mono", ()),))))
        self.assertEqual(self.names(house).count("one"), 3)
        house.change(("take", ("data", "one")))
        self.assertEqual(self.names(house).count("one"), 2)
        house.change(("take", ("role", "one")), ("take", ("definition", "plain")))
        self.assertEqual(self.names(house).count("one"), 1)

    def test_from_left_to_right(self):
        house = House(PROGRAM)
        house.change(
            ("put", define("aa", "1")),
            ("replace", define("aa", "2")),
            ("put", define("bb", "aa")),
            ("take", ("definition", "aa")),
            ("put", define("aa", "3")),
            ("picks", (WHOLE,)),
            ("picks", (TEXT,)),
        )
        self.assertEqual(self.names(house)[-2:], ["bb", "aa"])
        self.assertEqual(house.program.definition_named("aa").term, ("whole", 3))
        self.assertEqual(house.program.picks, (TEXT,))
        self.assertEqual(house.moment, 1)
        self.assertEqual(house.news, tuple(sorted(d("aa", "bb"))))

    def test_none(self):
        house = House(PROGRAM)
        house.change()
        self.assertEqual(self.state(house), (PROGRAM, 1, 0, 0, (), ()))
        house.undo()
        self.assertEqual(self.state(house), (PROGRAM, 0, 1, 0, (), ()))

    def test_invalid_ones(self):
        house = House(PROGRAM)
        right = ("put", define("aa", "1"))
        for value in (
            None,
            True,
            7,
            "put",
            (),
            [],
            {},
            ("put",),
            ["put", define("aa", "1")],
            right + (1,),
            ("put", None),
            ("put", "aa"),
            ("put", ("definition", "aa")),
            ("put", Declaration()),
            ("put", Scheme(A)),
            ("replace", ("definition", "one")),
            ("add", define("aa", "1")),
            (["put"], define("aa", "1")),
            (None, define("aa", "1")),
            ("take", define("one", "1")),
            ("take", "one"),
            ("take", ("definition",)),
            ("take", ("definition", None)),
            ("take", ["definition", "one"]),
            ("take", ("derive", "slist")),
            ("take", ("Data", "list")),
            ("take", (None, "one")),
            ("take", (["data"], "one")),
            ("take", ("definition", "one", "one")),
            ("picks", None),
            ("picks", WHOLE[0]),
            ("picks", {}),
            ("picks",),
            ("pick", []),
            ("data", ()),
            (None, []),
            PROGRAM,
            house,
        ):
            self.refuses(house, InvalidDeed, lambda: house.change(value), index=0)
            # It comes ahead of keys that are there or not, and of what Program raises.
            deeds = (("take", ("definition", "zzz")), ("picks", [7]), value, None)
            self.refuses(house, InvalidDeed, lambda: house.change(*deeds), index=2)

    def test_known_and_missing(self):
        house = House(PROGRAM)
        for declaration in (define("one", "1"), LIST, Derive("zerow", "same", "list"), PROGRAM.role_named("zeros")):
            self.refuses(house, Known, lambda: house.change(("picks", [7]), ("put", declaration)), index=1)
        for key in (("definition", "list"), ("data", "one"), ("case", "swhole"), ("role", "same"), ("data", "truth"), ("definition", "plus"), ("definition", ""), ("data", "no name at all")):
            self.refuses(house, Missing, lambda: house.change(("picks", []), ("take", key)), index=1)
        for declaration in (define("zzz", "1"), Data("truth", (), (("maybe", ()),)), Case("swhole", "same", [WHOLE], [])):
            self.refuses(house, Missing, lambda: house.change(("replace", declaration)), index=0)
        # The first one whose key is there, or is not there.
        self.refuses(house, Missing, lambda: house.change(("take", ("definition", "zzz")), ("put", define("one", "1"))), index=0)
        self.refuses(house, Known, lambda: house.change(("put", define("one", "1")), ("take", ("definition", "zzz"))), index=0)
        self.refuses(house, Known, lambda: house.change(("put", define("aa", "1")), ("put", define("aa", "1"))), index=1)
        take = ("take", ("definition", "plain"))
        self.refuses(house, Missing, lambda: house.change(take, take), index=1)
        self.refuses(house, Missing, lambda: house.change(take, ("replace", define("plain", "1"))), index=1)

    def test_what_program_raises(self):
        house = House(PROGRAM)
        count = len(PROGRAM.declarations)
        for picks in ([7], (A,), [WHOLE, WHOLE], ["whole"], [None], ((),)):
            self.refuses(house, InvalidPicks, lambda: house.change(("picks", picks)))
        self.refuses(house, Unknown, lambda: house.change(("take", ("definition", "one"))), index=9, word="one")
        self.refuses(house, Unknown, lambda: house.change(("put", define("aa", "zzz"))), index=count, word="zzz")
        self.refuses(house, Repeated, lambda: house.change(("put", define("cons", "1"))), index=count)
        self.refuses(house, Repeated, lambda: house.change(("put", Case("swhole", "same", [WHOLE], []))), index=count)
        self.refuses(house, Unknown, lambda: house.change(("picks", [con("zzz")])), index=count, word="zzz")
        # Only the result has to be right.
        house.change(("take", ("definition", "one")), ("replace", define("twice", "1")))
        self.assertEqual(house.moment, 1)


class TestLooked(HouseCase):
    def test_a_term(self):
        self.changes([("replace", define("plain", "given y . y"))], [d("plain")], [])
        self.changes([("replace", define("plain", "given x . x"))], [], [])
        self.changes([("replace", define("plain", "given x . plus x 1"))], [d("plain")], d("plain"))
        # Whoever uses it is looked at if its scheme changes.
        self.changes([("replace", define("one", "given y . alike y y"))], [d("one")], [])
        self.changes([("replace", define("one", "given x . yes"))], [d("one"), d("twice")], d("one", "twice"))
        house = self.changes([("replace", define("one", "given x . alike x nil"))], [d("one"), d("twice")], d("one"))
        self.assertEqual(house.scheme("twice"), read_scheme("'a -> truth if same 'a"))
        self.changes([("replace", define("odd", "given n . match equal n 0 | no = even ( minus n 2 ) | yes = no end"))], [d("even", "odd")], [])

    def test_rings_that_change(self):
        looked = [d("even"), d("odd")]
        self.changes([("replace", define("odd", "given n . no"))], looked, d("odd"))
        self.changes([("replace", define("odd", "given n . equal n 1"))], looked, [])
        self.changes([("replace", define("one", "given x . match twice x | no = no | yes = alike x x end"))], [d("one", "twice")], d("one", "twice"))
        self.changes([("take", ("definition", "odd")), ("replace", define("even", "given n . no"))], [d("even")], d("even"))

    def test_told_schemes(self):
        self.changes([("replace", define("null", "given x . zero", "'b -> 'b if zeros 'b"))], [], [], marks=False)
        self.changes([("replace", define("null", "given x . zero", "'a -> 'a if zeros 'a , zeros 'a"))], [], [], marks=False)
        house = self.changes([("replace", define("null", "given x . zero", "'a -> 'a if zeros 'a , grows 'a"))], [d("null"), d("start")], d("null"))
        self.assertTrue(house.program.is_right)
        # No longer told, it has another scheme: its least one.
        self.changes([("replace", define("null", "given x . zero"))], [d("null"), d("start")], d("null", "start"))
        self.changes([("replace", define("plain", "given x . x", "'c -> 'c"))], [d("plain")], [])
        self.changes([("replace", define("plain", "given x . x", "text -> text"))], [d("plain")], d("plain"))

    def test_data(self):
        turned = Data("list", ("a",), LIST.constructors[::-1])
        self.changes([("replace", turned)], [d("twice"), d("long")], [])
        more = Data("list", ("a",), LIST.constructors + (("lone", (A,)),))
        program = PROGRAM.with_more(define("aa", "given l . match l | two x y = nil end"), define("bb", "given l . aa l"))
        self.changes([("take", ("definition", "long")), ("replace", more)], [d("twice"), d("aa")], [], program)
        self.changes([("put", Data("unit", (), (("only", ()),)))], [], [])

    def test_roles(self):
        role = PROGRAM.role_named("zeros")
        other = Role("zeros", ("a",), [role.members[0], role.members[1][:3] + (read_term('given x . "."'),)])
        # The terms of defaults do not count: only the default itself is looked at.
        self.changes([("replace", other)], [(("role", "zeros", "blank"),)], [])
        behind = [c("zerow", "zero"), c("zerop", "zero"), c("zerop", "blank"), (("role", "zeros", "blank"),)]
        behind += [c("groww", "grow"), d("null"), d("start")]
        # Whether there is a default does.
        other = Role("zeros", ("a",), [role.members[0][:3] + (("name", "zero"),), role.members[1]])
        self.changes([("replace", other)], behind + [(("role", "zeros", "zero"),)], [])
        other = Role("zeros", ("a",), role.members + (("more", to(A, TEXT), (), read_term('given x . ""')),))
        self.changes([("replace", other)], behind + [(("role", "zeros", "more"),)], [])
        # The order of members, too.
        self.changes([("replace", Role("zeros", ("a",), role.members[::-1]))], behind, [])
        # A role behind zeros alone is looked at with what needs it.
        role = PROGRAM.role_named("grows")
        self.changes([("replace", Role("grows", ("a",), role.members))], [c("groww", "grow")], [])
        program = PROGRAM.with_more(define("big", "given x . grow x"), define("aa", "given x . big x"))
        found = self.changes([("replace", Role("grows", ("a",), role.members))], [c("groww", "grow"), d("aa"), d("big")], [], program)
        self.assertTrue(found.program.is_right)

    def test_roles_behind_roles(self):
        # Needs above a role, needs of its members and needs of its cases, each by itself and one behind the other.
        said = read_term('given x . ""')
        last = Role("last", ("a",), [("lasts", to(A, TEXT), (), None)])
        other = Role("last", ("a",), last.members + (("extra", to(A, TEXT), (), said),))
        unit = Data("unit", ("a",), (("only", (A,)),))
        nexts = [("next", to(A, TEXT), (), None)]
        more = ("more", to(A, B, TEXT), [("last", B)], read_term('given x . given y . ""'))
        far = Role("far", ("a",), [("fars", to(A, TEXT), (), read_term("given x . next x"))], above=[("link", A)])
        cases = [
            Case("lastw", "last", [WHOLE], [("lasts", said)]),
            Case("linkw", "link", [WHOLE], [("next", said)]),
            Case("farw", "far", [WHOLE], []),
        ]
        rows = [define("by", "given x . fars x"), define("at", "given x . alike x x")]
        links = {
            "above": ([Role("link", ("a",), nexts, above=[("last", A)])], []),
            "member": ([Role("link", ("a",), nexts + [more])], [(("role", "link", "more"),)]),
            "case": (
                [Role("link", ("a",), nexts), Case("linku", "link", [con("unit", A)], [("next", said)], needs=[("last", A)])],
                [c("linku", "next")],
            ),
        }
        every = [(("role", "last", "extra"),), c("lastw", "lasts"), c("linkw", "next"), (("role", "far", "fars"),), d("by")]
        for link, looked in links.values():
            program = Program(last, unit, *link, far, *cases, *rows)
            self.assertTrue(program.is_right)
            self.changes([("replace", other)], every + looked, [], program)
        program = Program(last, unit, Role("link", ("a",), nexts), far, *cases, *rows)
        self.changes([("replace", other)], [every[0], every[1]], [], program)

    def test_members_that_are_not_used(self):
        for more in (("old", to(A, TEXT), (), None), ("new", to(A, WHOLE), (), None), ("new", to(A, TEXT), [("same", A)], None)):
            rows = [("used", to(A, TEXT), (), None)]
            program = Program(Role("most", ("a",), rows + [("new", to(A, TEXT), (), None)]), define("by", "given x . used x"))
            self.changes([("replace", Role("most", ("a",), rows + [more]))], [d("by")], [], program)
        program = Program(Role("most", ("a",), rows), define("by", "given x . used x"))
        self.changes([("replace", Role("most", ("b",), [("used", to(B, TEXT), (), None)]))], [d("by")], [], program, marks=False)

    def test_names_that_stand_for_something_else(self):
        # The terms stay, what their names stand for does not.
        program = Program(define("thing", "given x . x"), define("by", "given x . thing x"), define("at", "given x . x"))
        takes = ("take", ("definition", "thing"))
        role = Role("things", ("a",), [("thing", to(A, A), (), None)])
        self.changes([takes, ("put", role)], [d("by")], d("by"), program)
        data = Data("things", ("a",), (("thing", (A,)),))
        self.changes([takes, ("put", data)], [d("by")], d("by"), program)
        self.changes([("take", ("role", "things")), ("put", data)], [d("by")], d("by"), Program(role, *program.declarations[1:]))
        self.changes([("take", ("data", "things")), ("put", program.declarations[0])], [d("by"), d("thing")], d("by", "thing"), Program(data, *program.declarations[1:]))

    def test_shapes(self):
        program = Program(
            Role("link", ("a", "b"), [("linked", to(B, TEXT), (), None)], settles=[(1, 0)]),
            Role("wide", ("f",), [("widen", to(B, TEXT), [("link", F, B)], read_term('given x . ""'))]),
            define("by", "given x . alike x x"),
        )
        self.assertEqual((program.faults, shapes_of(program, "wide")), ((), (0,)))
        # The shapes of all roles are found together.
        deed = ("put", Role("more", ("g",), [("moved", to(("apply", G, WHOLE), TEXT), [("wide", G)], None)]))
        house = self.changes([deed], [(("role", "wide", "widen"),)], [], program)
        self.assertEqual(shapes_of(house.program, "wide"), (1,))

    def test_cases(self):
        behind = [c("zerow", "zero"), c("zerop", "zero"), c("zerop", "blank"), (("role", "zeros", "blank"),)]
        behind += [c("groww", "grow"), d("null"), d("start")]
        # Another term of a member is looked at alone.
        case = PROGRAM.case_named("zerow")
        self.changes([("replace", Case("zerow", "zeros", [WHOLE], [("zero", ("whole", 1))]))], [c("zerow", "zero")], [])
        self.changes([("replace", Case("zerow", "zeros", [WHOLE], case.members + (("blank", read_term('given x . ""')),)))], [c("zerow", "blank")], [])
        more = Case("zerol", "zeros", [listed(A)], [("zero", ("name", "nil"))])
        self.changes([("put", more)], behind + [c("zerol", "zero")], [])
        # The order of cases does not count.
        self.changes([("take", ("case", "zerow")), ("put", case)], [], [])
        renamed = Case("zeroz", "zeros", [WHOLE], case.members)
        self.changes([("take", ("case", "zerow")), ("put", renamed)], behind[1:] + [c("zeroz", "zero")], [])
        case = PROGRAM.case_named("zerop")
        less = Case("zerop", "zeros", case.kinds, [("zero", read_term("two zero ( given x . x )"))], needs=case.needs[:1])
        house = House(PROGRAM)
        house.change(("replace", less))
        self.checked(house, PROGRAM)
        self.assertEqual(house.looked, tuple(sorted([group for group in behind if group != c("zerop", "blank")])))

    def test_derives(self):
        house = self.changes([("take", ("case", "slist"))], [d("one"), d("twice")], d("twice"))
        self.assertEqual(house.fault(("definition", "twice"))[0], "lacking")
        # A new wanted need is a change of the role, words 'a of a case that no one uses is none of same.
        program = PROGRAM.with_more(define("tell", "given x . shown x"))
        self.changes([("take", ("case", "wlist"))], [d("tell")], [], program)
        act = Data("list", ("a",), (("nil", ()), ("cons", (A, con("list", A))), ("lone", (WHOLE,))))
        house = self.changes([("take", ("definition", "long")), ("replace", act)], [d("twice")], [])
        # With a case of its own in the place of the derived one, needs and kinds stay the same.
        own = Case("slist", "same", [listed(A)], [("alike", read_term("given x . given y . yes"))], needs=[("same", A)])
        self.changes([("replace", own)], [c("slist", "alike")], [])

    def test_picks(self):
        role = [group for group in ALL if group not in (d("even", "odd"), d("long"), d("plain"))]
        self.changes([("picks", [WHOLE])], role, [])
        self.changes([("picks", [])], [], [])
        program = PROGRAM.with_more(define("vague", "alike zero zero"))
        self.assertEqual(program.fault(("definition", "vague"))[0], "unclear")
        house = self.changes([("picks", (WHOLE,))], role + [d("vague")], d("vague"), program)
        self.assertTrue(house.program.is_right)
        house.undo()
        self.assertEqual(house.news, d("vague"))

    def test_names_with_faults(self):
        program = PROGRAM.with_more(define("bad", "plus yes"), define("worse", "given x . bad"), define("after", "given x . worse x"))
        # Of a name with a fault all declarations and picks count.
        house = self.changes([("put", define("aa", "1"))], [d("aa"), d("worse"), d("after")], d("aa"), program)
        house.change(("picks", [WHOLE]))
        self.assertIn(d("worse"), house.looked)
        house.change(("picks", [WHOLE]))
        self.assertEqual((house.looked, house.news), ((), ()))
        before = house.program
        house.change(("replace", define("bad", "plus 1")))
        self.checked(house, before)
        self.assertEqual(house.looked, tuple(sorted([d("bad"), d("worse"), d("after")])))
        self.assertEqual(house.news, d("after", "bad", "worse"))

    def test_another_fault_is_no_news(self):
        program = Program(define("bad", "plus yes"))
        house = self.changes([("replace", define("bad", "1 2"))], [d("bad")], [], program)
        self.assertEqual(house.fault(("definition", "bad")), ("unfit", (0,)))

    def test_news(self):
        # Schemes that are the same up to names, and in another order of needs, are no news.
        told = "'a -> 'b -> truth if same 'a , words 'b"
        program = Program(define("it", "given x . given y . yes", told), define("at", "given x . it x 1"))
        other = "'b -> 'q -> truth if words 'q , same 'b"
        self.changes([("replace", define("it", "given x . given y . yes", other))], [], [], program, marks=False)
        # What is gone is no news.
        self.changes([("take", ("definition", "at"))], [], [], program)
        self.changes([("take", ("definition", "at")), ("put", define("by", "1"))], [d("by")], d("by"), program)
        self.changes([("take", ("definition", "at")), ("put", define("at", "1"))], [d("at")], d("at"), program)


class TestHistory(HouseCase):
    def filled(self):
        house = House(Program())
        for number in range(4):
            house.change(("put", define("d" + "abcd"[number], str(number))))
        return house

    def test_undo_and_redo(self):
        house = self.filled()
        every = house.program.declarations
        house.undo()
        self.assertEqual((house.moment, house.undone, house.program.declarations), (3, 1, every[:3]))
        self.assertEqual((house.looked, house.news), ((), ()))
        house.undo(2)
        self.assertEqual((house.moment, house.undone, house.program.declarations), (1, 3, every[:1]))
        house.redo(2)
        self.assertEqual((house.moment, house.undone, house.program.declarations), (3, 1, every[:3]))
        self.assertEqual((house.looked, house.news), ((d("db"), d("dc")), d("db", "dc")))
        house.redo()
        self.assertEqual((house.moment, house.undone, house.program.declarations), (4, 0, every))
        house.undo(count=4)
        self.assertEqual((house.moment, house.undone, house.program), (0, 4, Program()))
        house.redo(count=4)
        self.assertEqual((house.looked, house.news), ((d("da"), d("db"), d("dc"), d("dd")), d("da", "db", "dc", "dd")))

    def test_by_none(self):
        house = self.filled()
        house.undo(0)
        self.assertEqual((house.moment, house.undone, house.looked, house.news), (4, 0, (), ()))
        house.undo(2)
        house.redo(0)
        self.assertEqual((house.moment, house.undone, house.looked, house.news), (2, 2, (), ()))

    def test_out_of_range(self):
        house = self.filled()
        house.undo(1)
        for value in (4, -1, 10**50, True, False, None, "1", (), [], {}, house):
            self.refuses(house, OutOfRange, lambda: house.undo(value), value=value)
        for value in (2, -1, 10**50, True, False, None, "1", (), [], {}, house):
            self.refuses(house, OutOfRange, lambda: house.redo(value), value=value)
        house.redo()
        self.refuses(house, OutOfRange, house.redo, value=1)
        house.undo(4)
        self.refuses(house, OutOfRange, house.undo, value=1)

    def test_changes_end_what_can_be_redone(self):
        house = self.filled()
        house.undo(3)
        self.refuses(house, Missing, lambda: house.change(("take", ("definition", "zzz"))), index=0)
        house.redo(1)
        house.change(("put", define("aa", "1")))
        self.assertEqual((house.moment, house.undone), (3, 0))
        self.refuses(house, OutOfRange, house.redo, value=1)
        self.assertEqual([row.name for row in house.program.declarations], ["da", "db", "aa"])
        house.undo()
        house.change()
        self.assertEqual((house.moment, house.undone), (3, 0))

    def test_programs_before_and_after_are_compared(self):
        house = House(PROGRAM)
        house.change(("replace", define("plain", "1")))
        house.change(("replace", define("one", "given x . 1")))
        house.change(("replace", define("plain", "given x . x")))
        house.undo(3)
        # The middle does not count: plain is as it was.
        self.assertEqual(house.looked, (d("one"), d("twice")))
        self.assertEqual(house.news, d("one", "twice"))
        house.redo(2)
        self.assertEqual(house.news, d("one", "plain", "twice"))


class Stop(Exception):
    pass


class TestTrials(HouseCase):
    def test_attempts_that_succeed(self):
        house = House(PROGRAM)
        seen = []

        def action(own):
            seen.append((own is house, own.depth))
            own.change(("put", define("aa", "1")))
            return "done"

        self.assertEqual(house.attempt(action), "done")
        self.assertEqual(seen, [(True, 1)])
        self.assertEqual((house.moment, house.depth, house.news), (1, 0, d("aa")))
        self.assertIsNone(house.attempt(action=lambda own: None))

    def test_attempts_that_fail(self):
        house = House(PROGRAM)
        house.change(("put", define("aa", "1")))
        house.change(("put", define("bb", "1")))
        house.undo()
        before = self.state(house)

        def action(own):
            own.undo()
            own.change(("put", define("cc", "1")))
            own.change(("put", define("dd", "1")))
            raise Stop("here")

        with self.assertRaises(Stop) as caught:
            house.attempt(action)
        self.assertEqual(str(caught.exception), "here")
        self.assertEqual(self.state(house), before)
        house.redo()
        self.assertEqual([row.name for row in house.program.declarations][-2:], ["aa", "bb"])
        self.refuses(house, Missing, lambda: house.attempt(lambda own: own.change(("take", ("definition", "zzz")))), index=0)
        with self.assertRaises(KeyboardInterrupt):
            house.attempt(self.interrupt)
        self.assertEqual((house.moment, house.depth), (2, 0))

    def interrupt(self, house):
        house.change()
        raise KeyboardInterrupt()

    def test_explored(self):
        house = House(PROGRAM)
        house.change(("put", define("aa", "1")))
        house.change(("put", define("bb", "1")))
        house.undo()
        before = self.state(house)

        def action(own):
            own.undo()
            own.change(("put", define("cc", "1")))
            return (own.depth, own.moment, own.news)

        self.assertEqual(house.explore(action), (1, 1, d("cc")))
        self.assertEqual(self.state(house), before)
        with self.assertRaises(Stop):
            house.explore(self.stop)
        self.assertEqual(self.state(house), before)
        self.assertEqual(house.explore(action=lambda own: own.program), house.program)
        house.redo()
        self.assertEqual(house.moment, 2)

    def stop(self, house):
        house.undo()
        raise Stop()

    def test_within_others(self):
        house = House(Program())
        house.change(("put", define("aa", "1")))

        def inner(own):
            own.change(("put", define("cc", "1")))
            own.undo(3)
            raise Stop(own.depth)

        def outer(own):
            own.change(("put", define("bb", "1")))
            try:
                own.attempt(inner)
            except Stop as found:
                depth = found.args[0]
            own.explore(lambda other: other.undo(2))
            own.attempt(lambda other: other.change(("put", define("dd", "1"))))
            return (depth, own.depth, own.moment, [row.name for row in own.program.declarations])

        self.assertEqual(house.explore(outer), (2, 1, 3, ["aa", "bb", "dd"]))
        self.assertEqual((house.moment, house.undone, house.depth), (1, 0, 0))
        self.assertEqual(house.attempt(outer), (2, 1, 3, ["aa", "bb", "dd"]))
        self.assertEqual((house.moment, house.depth), (3, 0))


class TestGuards(HouseCase):
    def test_they_hold(self):
        guards = (("right", "one"), ("within", "plain", Scheme(to(WHOLE, WHOLE))), ("within", "one", read_scheme("'a -> truth if order 'a")))
        house = GuardedHouse(PROGRAM, *guards)
        self.assertEqual(house.guards, guards)
        self.assertIsInstance(house, House)
        self.assertEqual(self.state(house)[1:], (0, 0, 0, ALL, ()))
        self.assertEqual(GuardedHouse(PROGRAM).guards, ())
        self.assertEqual(GuardedHouse(program=PROGRAM).guards, ())

    def test_invalid_ones(self):
        scheme = Scheme(A)
        for value in (
            None,
            True,
            7,
            "right",
            (),
            [],
            {},
            ("right",),
            ["right", "one"],
            ("right", "one", scheme),
            ("right", ""),
            ("right", "in"),
            ("right", None),
            ("right", ["one"]),
            ("wrong", "one"),
            (None, "one"),
            ("within", "one"),
            ("within", "one", A),
            ("within", "one", None),
            ("within", "One", scheme),
            ("within", "one", scheme, scheme),
            (["within"], "one", scheme),
            PROGRAM,
        ):
            # Forms are looked at ahead of whether guards hold.
            with self.assertRaises(InvalidGuard) as caught:
                GuardedHouse(PROGRAM, ("right", "zzz"), value, None)
            self.assertEqual(caught.exception.index, 1)

    def test_broken_at_first(self):
        program = PROGRAM.with_more(define("bad", "plus yes"), define("stuck", "bad"))
        right = ("right", "one")
        unclear = Scheme(WHOLE, ("same", A))
        for guard in (
            ("right", "zzz"),
            ("right", "bad"),
            ("right", "stuck"),
            ("right", "cons"),
            ("right", "plus"),
            ("right", "alike"),
            ("within", "zzz", Scheme(A)),
            ("within", "bad", Scheme(WHOLE)),
            ("within", "plain", Scheme(A)),
            ("within", "plain", Scheme(to(WHOLE, TEXT))),
            ("within", "one", Scheme(to(A, TRUTH))),
            ("within", "one", Scheme(to(to(A, A), TRUTH))),
            # Not clear, with names that are not declared, with another number of kinds.
            ("within", "plain", Scheme(to(A, A), ("same", B))),
            ("within", "start", unclear),
            ("within", "plain", Scheme(to(con("zzz"), con("zzz")))),
            ("within", "plain", Scheme(to(A, A), ("zzz", A))),
            ("within", "plain", Scheme(to(A, A), ("same", con("zzz")))),
            ("within", "plain", Scheme(to(A, A), ("same", A, A))),
        ):
            with self.assertRaises(Broken) as caught:
                GuardedHouse(program, right, guard, ("right", "zzz"))
            self.assertEqual(caught.exception.index, 1)
        # Hopeless needs are no matter: such a scheme is steady, too.
        guard = ("within", "plain", Scheme(to(A, A), ("same", to(A, A))))
        self.assertEqual(GuardedHouse(program, right, guard).guards, (right, guard))

    def test_schemes_that_are_not_steady(self):
        program = Program.read("role turns 'a 'b settles 0 1\nmember turn : 'a -> 'b\ncase turnw : turns whole text\nas turn = spell\ndefine it = given x . x")
        steady = Scheme(to(A, A), ("turns", A, B))
        loose = Scheme(to(A, A), ("turns", WHOLE, B))
        self.assertEqual(GuardedHouse(program, ("within", "it", steady)).guards[0][2], steady)
        with self.assertRaises(Broken):
            GuardedHouse(program, ("within", "it", loose))

    def test_changes(self):
        house = GuardedHouse(PROGRAM, ("right", "twice"), ("within", "one", Scheme(to(WHOLE, TRUTH))))
        house.change(("replace", define("one", "given x . equal x 1")), ("replace", define("twice", "one 1")))
        self.assertEqual(house.moment, 1)
        self.refuses(house, Broken, lambda: house.change(("replace", define("one", "given x . 1")), ("replace", define("twice", "1"))), index=1)
        self.refuses(house, Broken, lambda: house.change(("replace", define("one", "plus yes"))), index=0)
        self.refuses(house, Broken, lambda: house.change(("take", ("definition", "twice"))), index=0)
        # Behind the other errors.
        self.refuses(house, InvalidDeed, lambda: house.change(("take", ("definition", "twice")), None), index=1)
        self.refuses(house, Missing, lambda: house.change(("take", ("definition", "twice")), ("take", ("definition", "twice"))), index=1)
        self.refuses(house, Unknown, lambda: house.change(("take", ("definition", "one"))), index=9, word="one")
        self.assertEqual(house.moment, 1)
        house.change()
        house.change(("put", define("aa", "1")))
        self.assertEqual((house.moment, house.news), (3, d("aa")))

    def test_undo_and_redo_are_not_guarded(self):
        # A later house is guarded; the earlier programs are not.
        house = GuardedHouse(PROGRAM, ("right", "one"))
        house.change(("put", define("aa", "1")))
        house.undo()
        house.redo()
        other = GuardedHouse(house.program, ("right", "aa"))
        other.change(("replace", define("aa", "2")))
        other.undo()
        self.assertEqual(other.moment, 0)
        self.refuses(other, OutOfRange, other.undo, value=1)
        self.refuses(other, OutOfRange, lambda: other.redo(2), value=2)
        other.redo(count=1)
        other.undo(count=1)
        self.assertEqual((other.moment, other.undone), (0, 1))

    def test_trials(self):
        house = GuardedHouse(PROGRAM, ("right", "one"))

        def action(own):
            own.change(("put", define("aa", "1")))
            own.change(("replace", define("one", "plus yes")))

        self.refuses(house, Broken, lambda: house.attempt(action), index=0)
        self.refuses(house, Broken, lambda: house.explore(action), index=0)
        self.assertEqual(house.explore(lambda own: own.change(("put", define("aa", "1")))), None)
        self.assertEqual(house.moment, 0)
        self.assertEqual(house.scheme("one"), PROGRAM.scheme("one"))
        self.assertIsNone(house.fault(("definition", "one")))
        self.assertEqual(house.run("start"), run(PROGRAM, "start"))


class TestCopies(HouseCase):
    def test_they_change_apart(self):
        for house in (House(PROGRAM), GuardedHouse(PROGRAM, ("right", "one"))):
            house.change(("put", define("aa", "1")))
            house.change(("put", define("bb", "1")), ("replace", define("aa", "yes")))
            house.undo()
            self.assertEqual((house.looked, house.news), ((d("aa"),), d("aa")))
            before = self.state(house)
            other = house.copy()
            self.assertIs(other.__class__, house.__class__)
            self.assertTrue(other == house)
            self.assertEqual(self.state(other), before)
            other.redo()
            self.assertEqual(self.state(house), before)
            self.assertEqual(other.moment, 2)
            other.undo(2)
            other.change(("put", define("cc", "1")))
            self.assertEqual(self.state(house), before)
            house.redo()
            self.assertEqual([row.name for row in house.program.declarations][-2:], ["aa", "bb"])
            self.assertEqual(other.program.declarations[-1].name, "cc")

    def test_in_no_trial(self):
        house = House(PROGRAM)
        depths = house.explore(lambda own: own.attempt(lambda other: (other.depth, other.copy().depth)))
        self.assertEqual(depths, (2, 0))
        kept = house.explore(lambda own: (own.change(("put", define("aa", "1"))), own.copy())[1])
        self.assertEqual((kept.moment, house.moment), (1, 0))

    def test_guards(self):
        guard = ("within", "one", Scheme(to(WHOLE, TRUTH)))
        house = GuardedHouse(PROGRAM, guard)
        other = house.copy()
        self.assertEqual(other.guards, (guard,))
        self.refuses(other, Broken, lambda: other.change(("replace", define("one", "plus yes"))), index=0)

    def test_equality(self):
        one, other = House(PROGRAM), House(PROGRAM)
        self.assertTrue(one == other)
        other.change()
        self.assertFalse(one == other)
        one.change(("put", define("aa", "1")))
        self.assertFalse(one == other)
        one.undo()
        one.change()
        # What was undone, looked at or told as news does not count.
        self.assertTrue(one == other)
        one.change()
        one.undo()
        self.assertTrue(one == other)
        guarded = GuardedHouse(PROGRAM)
        self.assertFalse(guarded == House(PROGRAM))
        self.assertFalse(House(PROGRAM) == guarded)
        self.assertTrue(guarded == GuardedHouse(PROGRAM))
        self.assertFalse(guarded == GuardedHouse(PROGRAM.with_more(define("aa", "1"))))
        other = GuardedHouse(PROGRAM)
        other.change()
        self.assertFalse(guarded == other)
        other.undo()
        self.assertTrue(guarded == other)
        self.assertFalse(guarded == GuardedHouse(PROGRAM, ("right", "one")))
        guards = (("right", "one"), ("right", "twice"))
        self.assertTrue(GuardedHouse(PROGRAM, *guards) == GuardedHouse(PROGRAM, *guards))
        self.assertFalse(GuardedHouse(PROGRAM, *guards) == GuardedHouse(PROGRAM, *guards[::-1]))
        for value in (PROGRAM, None, 1, "house", (), []):
            self.assertFalse(one == value)
            self.assertFalse(guarded == value)


class TestLimits(HouseCase):
    def test_of_runs(self):
        house = House(Program(define("more", "given x . more x"), define("it", "plus 1 ( more 1 )")))
        self.assertEqual(house.run("it").steps, 1000)
        self.assertEqual(house.run("it", limit=7).steps, 7)
        for limit in (-1, 2001, True, None):
            self.refuses(house, InvalidLimit, lambda: house.run("it", limit=limit), limit=limit)


class TestHistories(HouseCase):
    """After any history a house tells what a new one with the same program tells."""

    def deed(self, dice, program):
        name = dice.choice(["one", "twice", "odd", "even", "null", "start", "plain", "na", "nb"])
        terms = ["given x . x", "one", "given x . twice ( cons x nil )", "zero", "null zero", "plus yes", "given x . shown x", "given x . alike x zero", "odd 1", "na", "given x . nb x"]
        told = [None, None, None, "'a -> truth if same 'a", "'b -> 'b if zeros 'b", "whole"]
        chance = dice.random()
        there = layout.is_defined(program, name)
        if chance < 0.55:
            return ("replace" if there else "put", define(name, dice.choice(terms), dice.choice(told)))
        if chance < 0.65:
            return ("take", ("definition", name))
        if chance < 0.75:
            return ("picks", dice.choice([(), (WHOLE,), (TEXT, WHOLE)]))
        if chance < 0.9:
            needs = dice.choice([(), (("zeros", A),), (("zeros", A), ("zeros", B)), (("zeros", B), ("same", A))])
            members = [("zero", read_term(dice.choice(["two zero zero", "zero", "two 1"])))]
            return ("replace", Case("zerop", "zeros", [pair(A, B)], members, needs=needs))
        above = dice.choice([(), [("zeros", A)], [("zeros", A), ("same", A)]])
        return ("replace", Role("grows", ("a",), [("grow", to(A, A), (), dice.choice([None, read_term("given x . x")]))], above=above))

    def test_them(self):
        done = 0
        for seed in range(12):
            dice = random.Random(seed)
            house = House(PROGRAM)
            for _ in range(12):
                before = house.program
                chance = dice.random()
                if chance < 0.15:
                    house.undo(dice.randint(0, house.moment))
                elif chance < 0.3:
                    house.redo(dice.randint(0, house.undone))
                else:
                    try:
                        house.change(*[self.deed(dice, before) for _ in range(dice.choice([1, 1, 2]))])
                    except (ValueError, LookupError):
                        continue
                self.checked(house, before)
                done += 1
                new = House(Program(*house.program.declarations, picks=house.program.picks))
                for where in [where for group in new.looked for where in group]:
                    self.assertEqual(house.fault(where), new.fault(where))
                    if where[0] == "definition" and new.fault(where) is None:
                        self.assertEqual(house.scheme(where[1]), new.scheme(where[1]))
        self.assertGreater(done, 80)


if __name__ == "__main__":
    unittest.main()
