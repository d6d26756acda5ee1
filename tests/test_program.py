"""[22], [23], as far as shapes and contexts stand on them, and [75]: programs."""

import unittest

from leastneeds.declarations import Case, Data, Declaration, Definition, Derive, Role
from leastneeds.errors import (
    BadArms,
    BadMembers,
    Clash,
    Grows,
    Improper,
    InvalidDeclaration,
    InvalidPicks,
    Misshapen,
    Repeated,
    RoleRing,
    Uncovered,
    Underivable,
    Unknown,
    UnknownName,
    Unsupported,
)
from leastneeds.kinds import con, to, var
from leastneeds.program import Program
from leastneeds.schemes import Scheme
from samples import A, B, C, D, F, LIST, PAIR, TEXT, TRUTH, UNIT, WHOLE, case, listed, pair, role, used

TWO = ("a", "b")
X = ("name", "x")
SAME = ("given", "x", X)


def define(name, term=SAME, *needs, kind=None):
    return Definition(name, term, told=None if kind is None else Scheme(kind, *needs))


def arms(*rows):
    """A function that matches its argument."""
    return ("given", "x", ("match", X, tuple((name, tuple(names), ("whole", 0)) for name, names in rows)))


class TestProgram(unittest.TestCase):
    def wrong(self, error, *declarations, picks=()):
        with self.assertRaises(type(error)) as caught:
            Program(*declarations, picks=picks)
        self.assertEqual(vars(caught.exception), vars(error))
        with self.assertRaises(type(error)):
            Program.of(list(declarations), picks=picks)

    def test_declarations(self):
        rows = [LIST, role("r"), case("c", "r", [listed(A)], ("r", A)), define("f"), Derive("d", "same", "list")]
        picks = [WHOLE, listed(TEXT)]
        program = Program(*rows, picks=picks)
        self.assertEqual(program.declarations, tuple(rows))
        self.assertEqual(program.picks, tuple(picks))
        self.assertTrue(program == Program.of(rows, picks=tuple(picks)))
        self.assertTrue(program == Program.of(declarations=rows, picks=picks))
        rows.pop()
        picks.pop()
        self.assertEqual((len(program.declarations), len(program.picks)), (5, 2))
        self.assertTrue(program == Program(*rows, picks=program.picks).with_more(Derive("d", "same", "list")))
        self.assertFalse(program == Program.of(rows, picks=program.picks))
        self.assertFalse(program == Program.of(program.declarations, picks=picks))
        self.assertFalse(Program(LIST, UNIT) == Program(UNIT, LIST))
        self.assertFalse(Program() == ())

    def test_forms(self):
        for value in (None, 1, "a", LIST.name, (LIST,), [LIST], Declaration(), Scheme(A), Program()):
            self.wrong(InvalidDeclaration(1), LIST, value, LIST, None, picks=1)
        for picks in (None, 1, "a", {}, [A], [listed(A)], [WHOLE, WHOLE], ["whole"], [None], (WHOLE, TEXT, WHOLE), WHOLE):
            self.wrong(InvalidPicks(), LIST, LIST, picks=picks)

    def test_repeated(self):
        for name in ("whole", "text", "to", "truth", "list"):
            self.wrong(Repeated(1), LIST, Data(name, (), [("one", ())]), define("f", ("name", "none")))
        for name in ("same", "order", "words", "r"):
            self.wrong(Repeated(1), role("r"), Role(name, ("a",), [("m", A, (), None)]))
        primitives = "plus minus times equal upto join size eqtext uptotext spell".split()
        for name in primitives + ["no", "yes", "alike", "atmost", "shown", "nil", "cons", "rm", "f"]:
            for more in (
                Data("d", (), [("fresh", ()), (name, ())]), define(name), Role("q", ("a",), [("fresh", A, (), None), (name, A, (), None)]),
            ):
                self.wrong(Repeated(3), LIST, role("r"), define("f"), more)
        cases = [letter + kind for letter in "sow" for kind in ("whole", "text", "truth")]
        for name in cases + ["c", "d"]:
            for more in (case(name, "r", [TEXT]), Derive(name, "words", "list")):
                self.wrong(Repeated(4), LIST, role("r"), case("c", "r", [WHOLE]), Derive("d", "same", "list"), more)
        # Each space has its own names.
        Program(Data("same", (), [("list", ())]), Role("truth", ("a",), [("swhole", to(A, A), (), None)]), Data("list", (), [("whole", ())]))

    def test_unknown(self):
        for index, word, row in (
            (1, "other", Data("d", (), [("e", (WHOLE, listed(con("other")))), ("g", (con("more"),))])),
            (1, "other", Role("r", ("a",), [("m", to(A, con("other")), [("more", A)], ("name", "some"))], above=[("any", A)])),
            (1, "more", Role("r", ("a",), [("m", to(A, A), [("more", con("other"))], ("name", "some"))], above=[("any", A)])),
            (1, "some", Role("r", ("a",), [("m", A, (), ("name", "some")), ("n", con("other"), (), None)], above=[("any", A)])),
            (1, "any", Role("r", ("a",), [("m", A, (), None)], above=[("same", A), ("any", A)])),
            (1, "none", Case("c", "none", [con("other")], [("m", ("name", "some"))])),
            (1, "other", Case("c", "same", [con("other", A)], [("alike", ("name", "some"))], needs=[("none", A)])),
            (1, "some", Case("c", "same", [listed(A)], [("foo", ("use", ("name", "plus"), ("name", "some")))], needs=[("none", A)])),
            (1, "none", Case("c", "same", [listed(A)], [("alike", ("name", "no"))], needs=[("same", A), ("none", A)])),
            (1, "some", define("f", ("name", "some"), kind=con("other"))),
            (1, "other", define("f", SAME, ("none", A), kind=con("other"))),
            (1, "none", define("f", SAME, ("none", con("other")), kind=A)),
            (1, "other", define("f", SAME, ("same", con("other")), kind=A)),
            (1, "some", Derive("d", "same", "some")),
            (1, "whole", Derive("d", "same", "whole")),
            (1, "to", Derive("d", "same", "to")),
        ):
            self.wrong(Unknown(index, word), LIST, row, picks=[con("last")])
        self.wrong(Unknown(1, "last"), LIST, picks=[WHOLE, listed(con("last"))])

    def test_unknown_in_terms(self):
        late = ("name", "late")
        for word, term in (
            ("x", ("use", ("given", "x", X), X)),
            ("first", ("match", ("name", "first"), (("second", (), late),))),
            ("second", ("match", ("whole", 1), (("second", (), late),))),
            ("third", ("match", ("whole", 1), (("nil", (), ("name", "third")), ("cons", ("a",), late)))),
            ("list", ("match", ("whole", 1), (("nil", (), ("name", "f")), ("list", ("late",), late)))),
            ("y", ("let", (("x", ("name", "y")),), late)),
            ("late", ("let", (("x", ("name", "x")), ("y", ("name", "x"))), late)),
            ("late", ("given", "late", ("match", late, (("nil", (), ("name", "late")), ("late", ("a",), X))))),
            ("swhole", ("name", "swhole")),
            ("same", ("name", "same")),
            ("whole", ("name", "whole")),
        ):
            self.wrong(Unknown(0, word), define("f", term), LIST)
        Program(define("f", ("name", "g")), define("g", ("use", ("name", "alike"), ("name", "f"))), define("h", ("name", "spell")))
        Program(define("f", ("given", "alike", ("name", "alike"))), define("g", ("let", (("nil", ("name", "nil")),), ("name", "nil"))))

    def test_bad_arms(self):
        for rows in (
            [("nil", "")], [("nil", ""), ("cons", "a")], [("nil", "a"), ("cons", "ab")], [("nil", ""), ("cons", "ab"), ("nil", "")],
            [("nil", ""), ("one", "")], [("nil", ""), ("cons", "ab"), ("one", "")], [("no", "")], [("cons", "abc"), ("nil", "")],
        ):
            for row in (
                define("f", arms(*rows)), Case("c", "r", [WHOLE], [("rm", arms(*rows))]),
                Role("q", ("a",), [("qm", A, (), None), ("qn", A, (), arms(*rows))]), define("f", ("use", SAME, arms(*rows))),
            ):
                self.wrong(BadArms(3), LIST, UNIT, role("r"), row, Data("d", (), [("e", (con("list"),))]))
        Program(LIST, define("f", arms(("cons", "ab"), ("nil", ""))), define("g", arms(("yes", ""), ("no", ""))))

    def test_order_of_errors(self):
        bad = Data("bad", (), [("bc", (con("list"),))])
        ring = [role("r", ("q", A)), role("q", ("r", A))]
        self.wrong(Misshapen(3), *ring, LIST, bad, case("c", "q", [WHOLE], ("r", WHOLE)))
        self.wrong(RoleRing(1), LIST, *ring, Case("c", "q", [WHOLE], [("x", SAME)], needs=[("r", WHOLE)]))
        self.wrong(BadMembers(2), role("r"), case("d", "r", [TEXT], ("r", TEXT)), Case("c", "r", [WHOLE], [("x", SAME)]))
        self.wrong(Grows(1, 0), role("r"), case("d", "r", [TEXT], ("r", TEXT)), case("c", "r", [TEXT]))

    def test_role_ring(self):
        self.wrong(RoleRing(1), role("z", ("r", A)), role("r", ("q", A)), role("q", ("s", A)), role("s", ("r", A)))
        Program(role("r", ("q", A), ("s", A)), role("q", ("s", A)), role("s", ("same", A)))

    def test_bad_members(self):
        both = Role("r", ("a",), [("m", to(A, A), (), None), ("n", to(A, A), (), SAME)])
        for members in ([], [("n", SAME)], [("m", SAME), ("m", SAME)], [("m", SAME), ("o", SAME)], [("m", SAME), ("alike", SAME)]):
            self.wrong(BadMembers(1), both, Case("c", "r", [WHOLE], members))
        for members in ([("m", SAME)], [("n", SAME), ("m", SAME)]):
            Program(both, Case("c", "r", [WHOLE], members))

    def test_grows(self):
        three = Data("three", tuple("abc"), [("t", (A, B, C))])
        for needs, number in (
            ([("r", listed(A))], 0), ([("r", A), ("r", WHOLE), ("r", listed(WHOLE))], 2), ([("q", A, A)], 0), ([("q", WHOLE, A)], 0),
        ):
            self.wrong(Grows(3, number), LIST, role("r"), role("q", variables=TWO), case("c", "r", [listed(A)], *needs))
        self.wrong(Grows(2, 1), three, role("q", variables=TWO), case("c", "q", [con("three", A, B, C), B], ("q", B, B), ("q", A, A)))
        self.wrong(Grows(1, 0), role("r"), case("c", "r", [WHOLE], ("r", TEXT)))
        head = [con("three", A, B, C), B]
        Program(three, role("q", variables=TWO), case("c", "q", head, ("q", B, B), ("q", C, A)), case("d", "q", [WHOLE, A]))

    def test_uncovered(self):
        for settles, head in (
            (((0, 1),), [listed(A), listed(B)]), (((0, 1),), [WHOLE, A]), (((1, 0),), [pair(A, B), listed(A)]),
            (((0, 1), (1, 0)), [pair(A, B), listed(A)]),
        ):
            row = role("q", variables=TWO, settles=settles)
            self.wrong(Uncovered(3), LIST, PAIR, row, case("c", "q", head))
        row = role("q", variables=TWO, settles=((0, 1),))
        Program(LIST, PAIR, row, case("c", "q", [pair(A, B), listed(A)]), case("d", "q", [listed(A), WHOLE]))
        Program(LIST, role("q", variables=TWO), case("c", "q", [listed(A), listed(B)]))

    def test_clash(self):
        self.wrong(Clash(0, -1), Case("c", "same", [WHOLE], [("alike", SAME)]))
        self.wrong(Clash(1, -1), LIST, Case("c", "order", [TRUTH], [("atmost", SAME)]))
        self.wrong(Clash(1, -1), LIST, Derive("d", "same", "truth"))
        self.wrong(Clash(2, 1), LIST, Derive("d", "same", "list"), Case("c", "same", [listed(A)], [("alike", SAME)]))
        self.wrong(Clash(2, 1), LIST, Case("c", "same", [listed(WHOLE)], [("alike", SAME)]), Derive("d", "same", "list"))
        rows = [PAIR, role("q", variables=TWO), case("c", "q", [A, WHOLE]), case("d", "q", [pair(A, A), TEXT])]
        self.wrong(Clash(5, 2), *rows, case("e", "q", [TEXT, TRUTH]), case("g", "q", [pair(WHOLE, TEXT), B]))
        self.wrong(Clash(4, 3), *rows, case("e", "q", [pair(WHOLE, B), TEXT]))
        Program(*rows, case("e", "q", [pair(WHOLE, TEXT), TEXT]))
        self.wrong(Clash(2, 1), role("r"), case("c", "r", [to(A, WHOLE)]), case("d", "r", [to(TEXT, A)]))

    def test_first_clash(self):
        rows = [LIST, role("r"), Derive("d", "same", "list"), Derive("e", "same", "list")]
        self.wrong(Clash(3, 2), *rows, case("c", "r", [WHOLE]), case("b", "r", [WHOLE]))
        rows = [LIST, role("r"), case("c", "r", [WHOLE]), Derive("d", "same", "list"), case("b", "r", [TEXT])]
        self.wrong(Clash(5, 3), *rows, Derive("e", "same", "list"), case("g", "r", [WHOLE]))

    def test_clash_of_settling_roles(self):
        for settles, clashes in (((), False), (((0, 1),), True), (((1, 0),), False), (((0, 1), (1, 0)), True)):
            rows = [PAIR, role("q", variables=TWO, settles=settles), case("c", "q", [pair(WHOLE, WHOLE), WHOLE])]
            rows += [case("d", "q", [pair(WHOLE, WHOLE), TEXT])]
            if clashes:
                self.wrong(Clash(3, 2), *rows)
            else:
                Program(*rows)
        rows = [PAIR, role("q", variables=TWO, settles=((0, 1), (1, 0))), case("c", "q", [TEXT, WHOLE])]
        self.wrong(Clash(3, 2), *rows, case("d", "q", [TRUTH, WHOLE]))

    def test_unsupported(self):
        roles = [LIST, role("low"), role("high", ("same", A), ("low", A))]
        low = case("l", "low", [listed(A)], ("low", A))
        same = Derive("s", "same", "list")
        self.wrong(Unsupported(3, 0), *roles, case("h", "high", [listed(A)], ("high", A)), low)
        self.wrong(Unsupported(4, 1), *roles, same, case("h", "high", [listed(A)], ("high", A)))
        self.wrong(Unsupported(5, 1), *roles, same, low, case("h", "high", [listed(A)], ("same", A)))
        self.wrong(Unsupported(5, 0), *roles, same, low, case("h", "high", [listed(A)], ("low", A)))
        Program(*roles, same, low, case("h", "high", [listed(A)], ("high", A)))
        Program(*roles, same, low, case("h", "high", [listed(A)], ("same", A), ("low", A)))

    def test_improper(self):
        rows = [LIST, role("q", variables=TWO, settles=((0, 1),)), role("lone"), case("c", "q", [listed(A), WHOLE])]
        self.wrong(Improper(4), *rows, define("f", SAME, ("same", B), kind=A))
        self.wrong(Improper(4), *rows, define("f", SAME, ("q", B, A), kind=A))
        self.wrong(Improper(4), *rows, define("f", SAME, ("q", A, B), ("q", A, C), kind=A))
        self.wrong(Improper(4), *rows, define("f", SAME, ("q", listed(A), B), kind=to(A, B)))
        self.wrong(Improper(4), *rows, define("f", SAME, ("q", listed(A), TEXT), kind=A))
        self.wrong(Improper(4), *rows, define("f", SAME, ("lone", A), kind=A))
        self.wrong(Improper(4), *rows, define("f", SAME, ("same", to(A, A)), kind=A))
        self.wrong(Improper(5), *rows, Derive("d", "same", "list"), define("f", SAME, ("same", listed(to(A, A))), kind=A))
        self.wrong(Improper(4), *rows, define("g", SAME, ("same", used(F, A)), kind=to(used(F, A), A)))
        rows.append(Derive("d", "same", "list"))
        Program(*rows, define("f", SAME, ("q", A, B), ("same", B), kind=A), define("g", SAME, ("same", used(F, A)), kind=to(used(F, A), A)))
        rows = rows[:4]
        self.wrong(Improper(5), *rows, PAIR, Case("d", "same", [pair(A, B)], [("alike", SAME)], needs=[("lone", A)]))
        self.wrong(Improper(5), *rows, PAIR, Case("d", "same", [pair(pair(A, B), C)], [("alike", SAME)], needs=[("q", A, B), ("q", A, C)]))

    def test_improper_members(self):
        rows = [role("q", variables=TWO, settles=((0, 1),)), role("open", variables=TWO)]
        self.wrong(Improper(0), Role("r", ("a",), [("m", WHOLE, (), None)]))
        self.wrong(Improper(0), Role("r", ("a",), [("m", A, (), None), ("n", TEXT, (), None)]))
        self.wrong(Improper(0), Role("r", TWO, [("m", A, (), None)]))
        self.wrong(Improper(2), *rows, Role("r", ("a",), [("m", A, [("open", A, B)], None)]))
        self.wrong(Improper(2), *rows, Role("r", ("a",), [("m", to(A, B, C), [("q", A, B), ("q", A, C)], None)]))
        Program(*rows, Role("r", ("a",), [("m", A, [("q", A, B), ("same", B)], None)]), Role("s", TWO, [("n", A, (), None)], settles=[(0, 1)]))
        Program(*rows, Role("r", TWO, [("m", A, (), None)], above=[("q", A, B)]))

    def test_names(self):
        program = Program(LIST, role("r"), case("c", "r", [WHOLE]), define("f"), Derive("d", "same", "list"), case("b", "r", [TEXT]))
        self.assertTrue(program.data_named("list") == LIST)
        self.assertTrue(program.data_named(name="truth") == Data("truth", (), [("no", ()), ("yes", ())]))
        self.assertTrue(program.role_named("r") == role("r"))
        self.assertTrue(program.case_named("c") == case("c", "r", [WHOLE]))
        self.assertTrue(program.definition_named("f") == define("f"))
        self.assertEqual(program.cases_of("r"), ("b", "c"))
        self.assertEqual(program.cases_of(role="same"), ("d", "stext", "struth", "swhole"))
        self.assertEqual(program.cases_of("words"), ("wtext", "wtruth", "wwhole"))
        for ask in (program.data_named, program.role_named, program.case_named, program.definition_named, program.cases_of):
            for value in (None, 1, "none", ["list"], ("r",), "whole", "plus", program):
                with self.assertRaises(UnknownName) as caught:
                    ask(value)
                self.assertIs(caught.exception.value, value)

    def test_built_in(self):
        program = Program()
        compared = to(A, A, TRUTH)
        self.assertTrue(program.role_named("same") == Role("same", ("a",), [("alike", compared, (), None)]))
        self.assertTrue(program.role_named("order") == Role("order", ("a",), [("atmost", compared, (), None)], above=[("same", A)]))
        self.assertTrue(program.role_named("words") == Role("words", ("a",), [("shown", to(A, TEXT), (), None)]))
        no, yes, y = ("name", "no"), ("name", "yes"), ("name", "y")

        def two(at_no):
            return ("given", "x", ("given", "y", ("match", X, (("no", (), at_no), ("yes", (), y)))))

        for name, word, kind, member, term in (
            ("swhole", "same", WHOLE, "alike", ("name", "equal")),
            ("stext", "same", TEXT, "alike", ("name", "eqtext")),
            ("struth", "same", TRUTH, "alike", two(("match", y, (("no", (), yes), ("yes", (), no))))),
            ("owhole", "order", WHOLE, "atmost", ("name", "upto")),
            ("otext", "order", TEXT, "atmost", ("name", "uptotext")),
            ("otruth", "order", TRUTH, "atmost", two(yes)),
            ("wwhole", "words", WHOLE, "shown", ("name", "spell")),
            ("wtext", "words", TEXT, "shown", SAME),
            ("wtruth", "words", TRUTH, "shown", ("given", "x", ("match", X, (("no", (), ("text", "no")), ("yes", (), ("text", "yes")))))),
        ):
            self.assertTrue(program.case_named(name) == Case(name, word, [kind], [(member, term)]), name)


class TestSeveralErrors(unittest.TestCase):
    """Each error of [23] ahead of all those behind it, wherever they stand."""

    # For each error, in their order, declarations that have it and no earlier one.
    ROWS = [
        ("Repeated", [Data("list", (), [("other", ())])]),
        ("Unknown", [Definition("unknown", ("name", "nowhere"))]),
        ("BadArms", [Definition("badarms", arms(("no", "")))]),
        ("Misshapen", [Data("badshape", (), [("badshape", (con("list"),))])]),
        ("RoleRing", [role("ring", ("rong", A)), role("rong", ("ring", A))]),
        ("BadMembers", [Role("lone", ("a",), [("lonem", to(A, A), (), None)]), Case("lonec", "lone", [WHOLE], [])]),
        ("Grows", [role("big"), case("bigc", "big", [TEXT], ("big", TEXT))]),
        ("Uncovered", [role("cover", variables=TWO, settles=((0, 1),)), case("coverc", "cover", [WHOLE, A])]),
        ("Clash", [Case("clash", "same", [TEXT], [("alike", SAME)])]),
        ("Underivable", [Data("act", (), [("act", (to(WHOLE, WHOLE),))]), Derive("sact", "same", "act")]),
        ("Unsupported", [role("high", ("words", A)), case("highc", "high", [to(A, B)])]),
        ("Improper", [Definition("improper", SAME, told=Scheme(to(A, A), ("same", B)))]),
    ]

    def test_in_their_order(self):
        for k, (word, own) in enumerate(self.ROWS):
            for later, (_, others) in enumerate(self.ROWS[k:]):
                rows = [LIST] + ([] if later == 0 else list(others)) + list(own)
                with self.assertRaises((ValueError, LookupError)) as caught:
                    Program(*rows)
                self.assertEqual(type(caught.exception).__name__, word)
            rows = [LIST]
            for _, others in reversed(self.ROWS[k:]):
                rows += others
            with self.assertRaises((ValueError, LookupError)) as caught:
                Program(*rows)
            self.assertEqual(type(caught.exception).__name__, word)
            # Ahead of all of them is what is no declaration, then picks of another form.
            with self.assertRaises(InvalidDeclaration) as caught:
                Program(*rows, None, picks=None)
            self.assertEqual(caught.exception.index, len(rows))
            with self.assertRaises(InvalidPicks):
                Program(*rows, picks=[A])

    def test_the_first_one(self):
        for word, own in self.ROWS:
            if word == "Underivable":
                continue
            index = len(own)
            renamed = self.again(word)
            with self.assertRaises((ValueError, LookupError)) as caught:
                Program(LIST, *own, *renamed)
            self.assertEqual(type(caught.exception).__name__, word)
            expected = 1 if word == "RoleRing" else index
            self.assertEqual(caught.exception.index, expected, word)

    def again(self, word):
        """Further declarations with the same error."""
        told = {
            "Repeated": [Data("text", (), [("more", ())])],
            "Unknown": [Definition("unknowns", ("name", "none"))],
            "BadArms": [Definition("badarmss", arms(("yes", "")))],
            "Misshapen": [Data("badshap", (), [("badshap", (con("list"),))])],
            "RoleRing": [role("rings", ("rongs", A)), role("rongs", ("rings", A))],
            "BadMembers": [Case("lonecs", "lone", [TEXT], [])],
            "Grows": [case("bigcs", "big", [WHOLE], ("big", TEXT))],
            "Uncovered": [case("covercs", "cover", [TEXT, A])],
            "Clash": [Case("clashs", "same", [WHOLE], [("alike", SAME)])],
            "Unsupported": [case("highcs", "high", [listed(to(A, B))])],
            "Improper": [Definition("impropes", SAME, told=Scheme(to(A, A), ("same", B)))],
        }
        return told[word]

    def test_underivable_ahead_of_what_later_declarations_have(self):
        later = Definition("improper", SAME, told=Scheme(to(A, A), ("same", B)))
        act = Data("act", (), [("act", (to(WHOLE, WHOLE),))])
        unsupported = [role("high", ("words", A)), case("highc", "high", [to(A, B)])]
        with self.assertRaises(Underivable) as caught:
            Program(later, *unsupported, act, Derive("sact", "same", "act"))
        self.assertEqual((caught.exception.word, caught.exception.need), ("sact", ("same", to(WHOLE, WHOLE))))

    def test_picks(self):
        with self.assertRaises(Unknown) as caught:
            Program(LIST, Definition("badarms", arms(("no", ""))), picks=[con("none")])
        self.assertEqual((caught.exception.index, caught.exception.word), (2, "none"))
        with self.assertRaises(Misshapen) as caught:
            Program(LIST, picks=[WHOLE, con("list")])
        self.assertEqual(caught.exception.index, 1)
        with self.assertRaises(Misshapen) as caught:
            Program(LIST, *self.ROWS[4][1], picks=[con("whole", WHOLE)])
        self.assertEqual(caught.exception.index, 3)


class TestDerives(unittest.TestCase):
    NEST = Data("nest", ("a",), [("stop", ()), ("deep", (A, con("nest", pair(A, A))))])
    MARK = Data("mark", ("a",), [("tag", (WHOLE,))])
    ACT = Data("act", ("a",), [("act", (to(A, A),))])

    def needs(self, *declarations):
        return Program(*declarations).case_named("d").needs

    def test_needs(self):
        self.assertEqual(self.needs(LIST, Derive("d", "same", "list")), (("same", A),))
        self.assertEqual(self.needs(self.MARK, Derive("d", "same", "mark")), ())
        self.assertEqual(self.needs(self.NEST, PAIR, Derive("d", "same", "nest"), Derive("e", "same", "pair")), (("same", A),))
        self.assertEqual(self.needs(LIST, Derive("d", "order", "list"), Derive("e", "same", "list")), (("order", A),))
        self.assertEqual(self.needs(PAIR, Derive("d", "words", "pair")), (("words", A), ("words", B)))

    def test_underivable(self):
        for rows, need in (
            ([self.ACT, Derive("d", "same", "act")], ("same", to(A, A))),
            ([LIST, Derive("d", "order", "list")], ("same", listed(A))),
            ([Data("odd", ("a",), [("o", (A, listed(A)))]), LIST, Derive("d", "same", "odd")], ("same", listed(A))),
        ):
            with self.assertRaises(Underivable) as caught:
                Program(*rows)
            self.assertEqual((caught.exception.word, caught.exception.need), ("d", need))

    def test_members(self):
        program = Program(LIST, Derive("d", "same", "list"), Derive("e", "order", "list"), Derive("w", "words", "list"))
        yes, no = ("name", "yes"), ("name", "no")

        def compared(word, letter):
            return ("use", ("use", ("name", word), ("name", "a" + letter)), ("name", "b" + letter))

        def matched(at_no, at_other, at_last, like):
            inner = ("match", compared("alike", "a"), (("no", (), like), ("yes", (), at_last)))
            return ("given", "one", ("given", "other", ("match", ("name", "one"), (
                ("nil", (), ("match", ("name", "other"), (("nil", (), yes), ("cons", ("ba", "bb"), at_no)))),
                ("cons", ("aa", "ab"), ("match", ("name", "other"), (("nil", (), at_other), ("cons", ("ba", "bb"), inner)))),
            ))))

        self.assertEqual(program.case_named("d").members, (("alike", matched(no, no, compared("alike", "b"), no)),))
        self.assertEqual(
            program.case_named("e").members,
            (("atmost", matched(yes, no, compared("atmost", "b"), compared("atmost", "a"))),),
        )
        three = Data("three", (), [("three", (WHOLE, TEXT, TRUTH))])
        program_of_three = Program(three, Derive("d", "same", "three"), Derive("e", "order", "three"))
        between = compared("alike", "b")
        for name, word, like in (("d", "alike", lambda letter: no), ("e", "atmost", lambda letter: compared("atmost", letter))):
            last = compared(word, "c")
            inner = ("match", between, (("no", (), like("b")), ("yes", (), last)))
            inner = ("match", compared("alike", "a"), (("no", (), like("a")), ("yes", (), inner)))
            body = ("match", ("name", "other"), (("three", ("ba", "bb", "bc"), inner),))
            body = ("match", ("name", "one"), (("three", ("aa", "ab", "ac"), body),))
            told = ("given", "one", ("given", "other", body))
            self.assertEqual(program_of_three.case_named(name).members, ((word, told),))
        term = ("text", "cons (")
        for part in (("use", ("name", "shown"), ("name", "aa")), ("text", ") ("), ("use", ("name", "shown"), ("name", "ab")), ("text", ")")):
            term = ("use", ("use", ("name", "join"), term), part)
        shown = ("given", "one", ("match", ("name", "one"), (("nil", (), ("text", "nil")), ("cons", ("aa", "ab"), term))))
        self.assertEqual(program.case_named("w").members, (("shown", shown),))


if __name__ == "__main__":
    unittest.main()
