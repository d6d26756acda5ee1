"""[21]: declarations."""

import unittest

from leastneeds.declarations import Case, Data, Declaration, Definition, Derive, Role
from leastneeds.errors import InvalidForm
from leastneeds.kinds import con, to, var
from leastneeds.schemes import Scheme

A, B, C, D, F = [var(name) for name in "abcdf"]
WHOLE = con("whole")
X = ("name", "x")
HOLE = ("given", "x", ("hole",))
NO_NAMES = (None, 1, True, "", "A", "data", "abcdefghi", ("a",), ["a"], Scheme(A))
NO_ROWS = (None, 1, "a", {}, Scheme(A), "ab")


def many(count, make):
    return [make("x" + "abcdefghijk"[k // 10] + "abcdefghijk"[k % 10]) for k in range(count)]


class TestForms(unittest.TestCase):
    def wrong(self, word, make, *args, **more):
        with self.assertRaises(InvalidForm) as caught:
            make(*args, **more)
        self.assertEqual(caught.exception.word, word, (args, more))

    def test_below_declaration(self):
        for made in (
            Data("a", (), [("a", ())]), Role("a", "a".split(), [("m", A, (), None)]), Case("a", "b", [WHOLE], []),
            Definition("a", X), Derive("a", "same", "b"),
        ):
            self.assertIsInstance(made, Declaration)
            self.assertIn(Declaration, type(made).__bases__)

    def test_data(self):
        rows = [("nil", []), ("cons", [A, con("list", A)])]
        variables = ["a"]
        data = Data(name="list", variables=variables, constructors=rows)
        rows[1][1].append(WHOLE)
        rows.append(1)
        variables.append("b")
        self.assertEqual(data.name, "list")
        self.assertEqual(data.variables, ("a",))
        self.assertEqual(data.constructors, (("nil", ()), ("cons", (A, con("list", A)))))
        self.assertEqual(Data("d", "a b c d".split(), many(8, lambda x: (x, (D, C, B, A)))).variables, tuple("abcd"))
        for value in NO_NAMES:
            self.wrong("name", Data, value, None, None)
            self.wrong("variables", Data, "d", [value], None)
            self.wrong("constructors", Data, "d", (), [(value, ())])
        for value in NO_ROWS + (("a", "a"), tuple("abcde"), (A,)):
            self.wrong("variables", Data, "d", value, None)
        for value in NO_ROWS + (
            (), many(9, lambda x: (x, ())), [["one", ()]], [("one",)], [("one", (), ())], [("one", ()), ("one", ())],
            [("one", A)], [("one", (B,))], [("one", (A, con("list", B)))], [("one", (A,) * 5)], [("one", None)],
            [("one", ("a",))], [("one", (["var", "a"],))], [None], [("one", "")], [("one", ()), ("two", (None,))],
        ):
            self.wrong("constructors", Data, "d", ("a",), value)

    def test_role(self):
        needs = [("same", A)]
        members = [("m", to(A, B), needs, X)]
        above = [("order", A)]
        settles = [(0, 1)]
        role = Role(name="r", variables=["a", "b"], members=members, above=above, settles=settles)
        for row in (needs, members, above, settles):
            row.append(1)
        self.assertEqual(role.variables, ("a", "b"))
        self.assertEqual(role.members, (("m", to(A, B), (("same", A),), X),))
        self.assertEqual(role.above, (("order", A),))
        self.assertEqual(role.settles, ((0, 1),))
        plain = Role("r", ("a",), (("m", A, (), None),))
        self.assertEqual((plain.above, plain.settles), ((), ()))
        with self.assertRaises(TypeError):
            Role("r", ("a",), (("m", A, (), None),), ())

    def test_role_arguments(self):
        fine = [("m", A, (), None)]
        for value in NO_NAMES:
            self.wrong("name", Role, value, None, None, above=None, settles=None)
            self.wrong("variables", Role, "r", (value,), None, above=None, settles=None)
            self.wrong("members", Role, "r", ("a",), [(value, A, (), None)], above=None, settles=None)
        for value in NO_ROWS + ((), ("a", "a"), ("a", "b", "c"), (A,)):
            self.wrong("variables", Role, "r", value, None)
        for value in NO_ROWS + (
            (), many(101, lambda x: (x, A, (), None)), [["m", A, (), None]], [("m", A, ())], fine + fine, [("m", "a", (), None)],
            [("m", A, None, None)], [("m", A, [("same",)], None)], [("m", A, [["same", A]], None)], [("m", A, [("same", A)] * 101, None)],
            [("m", A, (), 1)], [("m", A, (), HOLE)], [("m", A, (), ())], [("m", A, (), None, None)],
        ):
            self.wrong("members", Role, "r", ("a", "b"), value, above=None, settles=None)
        for value in NO_ROWS + (
            [("r", A)], [("same", WHOLE)], [("same", con("a"))], [("same", C)], [("two", A, A)], [("same", A), ("same", A)], [["same", A]], [("same",)],
            [("same", con("list", A))], [("same", A, B, C)], [None], many(101, lambda x: (x, A)), [("as", A)],
        ):
            self.wrong("above", Role, "r", ("a", "b"), fine, above=value, settles=None)
        above = [("same", A), ("same", B), ("two", A, B), ("two", B, A)]
        self.assertEqual(Role("r", ("a", "b"), fine, above=above).above, tuple(above))
        self.assertEqual(len(Role("r", ("a",), many(100, lambda x: (x, A, [("same", A)] * 100, None))).members), 100)
        self.assertEqual(len(Role("r", ("a",), fine, above=many(100, lambda x: (x, A))).above), 100)

    def test_settles(self):
        fine = [("m", A, (), None)]
        for settles in ((), ((0, 1),), ((1, 0),), ((0, 1), (1, 0))):
            self.assertEqual(Role("r", ("a", "b"), fine, settles=settles).settles, settles)
            self.assertEqual(Role("r", ["a", "b"], fine, settles=list(settles)).settles, settles)
            if settles:
                self.wrong("settles", Role, "r", ("a",), fine, settles=settles)
        self.assertEqual(Role("r", ("a",), fine, settles=[]).settles, ())
        for value in NO_ROWS + (
            ((1, 0), (0, 1)), ((0, 1), (0, 1)), ((0, 0),), ((1, 1),), ((0, 2),), ((False, True),), ((True, False),), ((0, True),), ((False, 1),), ((0, 1), (1, False)), ([0, 1],),
            ((0, 1, 0),), (0, 1), ((0,),), ((0, None),), (("0", "1"),), ((0, 1), (1, 0), (0, 1)), ((0, 1), (True, 0)), (None,),
        ):
            self.wrong("settles", Role, "r", ("a", "b"), fine, settles=value)

    def test_case(self):
        kinds, members, needs = [con("list", A)], [("m", X)], [("same", A)]
        case = Case(name="c", role="r", kinds=kinds, members=members, needs=needs)
        for row in (kinds, members, needs):
            row.append(1)
        self.assertEqual(case.kinds, (con("list", A),))
        self.assertEqual(case.members, (("m", X),))
        self.assertEqual(case.needs, (("same", A),))
        self.assertEqual(Case("c", "r", (A, WHOLE), [("m", X)] * 100, needs=[("same", A)] * 100).needs[99], ("same", A))
        self.assertEqual(Case("c", "r", (con("pair", A, A),), ()).needs, ())
        self.assertEqual(Case("c", "r", (con("to", A), A), ()).kinds, (con("to", A), A))

    def test_case_arguments(self):
        head = (con("list", A),)
        for value in NO_NAMES:
            self.wrong("name", Case, value, None, None, None, needs=None)
            self.wrong("role", Case, "c", value, None, None, needs=None)
            self.wrong("members", Case, "c", "r", head, [(value, X)], needs=None)
        for value in NO_ROWS + (
            (), (A,), (A, B), (("apply", F, A),), (WHOLE, ("apply", F, A)), (("apply", ("apply", F, A), A), WHOLE),
            (WHOLE, WHOLE, WHOLE), ("list",), (None,), (WHOLE, None), (["con", "whole"],),
        ):
            self.wrong("kinds", Case, "c", "r", value, None, needs=None)
        for value in NO_ROWS + (
            [("m", X)] * 101, [["m", X]], [("m",)], [("m", X, X)], [("m", 1)], [("m", HOLE)], [("m", None)], [None],
        ):
            self.wrong("members", Case, "c", "r", head, value, needs=None)
        for value in NO_ROWS + (
            [("same", A)] * 101, [("same", B)], [("same", A), ("same", con("list", B))], [["same", A]], [("same",)], [None], [A],
        ):
            self.wrong("needs", Case, "c", "r", head, (), needs=value)

    def test_definition(self):
        told = Scheme(A, ("same", A))
        definition = Definition(name="f", term=X, told=told)
        self.assertEqual((definition.name, definition.term), ("f", X))
        self.assertIs(definition.told, told)
        self.assertIsNone(Definition("f", X).told)
        for value in NO_NAMES:
            self.wrong("name", Definition, value, None, told=1)
        for value in (None, 1, "x", ["name", "x"], ("hole",), HOLE, ("use", X, HOLE), ()):
            self.wrong("term", Definition, "f", value, told=1)
        for value in (1, A, False, (), "a", (A, ())):
            self.wrong("told", Definition, "f", X, told=value)

    def test_derive(self):
        derive = Derive(name="d", role="order", data="list")
        self.assertEqual((derive.name, derive.role, derive.data), ("d", "order", "list"))
        for value in NO_NAMES:
            self.wrong("name", Derive, value, None, None)
            self.wrong("role", Derive, "d", value, None)
            self.wrong("data", Derive, "d", "words", value)
        self.wrong("role", Derive, "d", "other", None)


class TestEquality(unittest.TestCase):
    ROWS = (
        lambda: Data("a", ("a",), (("n", ()),)),
        lambda: Data("b", ("a",), (("n", ()),)),
        lambda: Data("a", ("b",), (("n", ()),)),
        lambda: Data("a", ("a",), (("n", (A,)),)),
        lambda: Role("a", ("a", "b"), (("n", A, (), None),)),
        lambda: Role("b", ("a", "b"), (("n", A, (), None),)),
        lambda: Role("a", ("a", "c"), (("n", A, (), None),)),
        lambda: Role("a", ("a", "b"), (("n", A, (), X),)),
        lambda: Role("a", ("a", "b"), (("n", A, (), None),), above=(("same", A),)),
        lambda: Role("a", ("a", "b"), (("n", A, (), None),), settles=((0, 1),)),
        lambda: Case("a", "b", (WHOLE,), ()),
        lambda: Case("b", "b", (WHOLE,), ()),
        lambda: Case("a", "a", (WHOLE,), ()),
        lambda: Case("a", "b", (WHOLE, A), ()),
        lambda: Case("a", "b", (WHOLE,), (("n", X),)),
        lambda: Case("a", "b", (WHOLE,), (), needs=(("same", WHOLE),)),
        lambda: Definition("a", X),
        lambda: Definition("b", X),
        lambda: Definition("a", ("name", "y")),
        lambda: Definition("a", X, told=Scheme(A)),
        lambda: Definition("a", X, told=Scheme(WHOLE)),
        lambda: Derive("a", "same", "a"),
        lambda: Derive("b", "same", "a"),
        lambda: Derive("a", "words", "a"),
        lambda: Derive("a", "same", "b"),
    )

    def test_equality(self):
        for k, one in enumerate(self.ROWS):
            for m, other in enumerate(self.ROWS):
                self.assertIs(one() == other(), k == m, (k, m))
                self.assertIs(one() != other(), k != m, (k, m))
            for value in (None, 1, "a", (), A):
                self.assertFalse(one() == value)

    def test_lists_and_tuples(self):
        self.assertTrue(Data("a", ["a"], [("n", [A])]) == Data("a", ("a",), (("n", (A,)),)))
        self.assertTrue(Definition("a", X, told=Scheme(A)) == Definition("a", X, told=Scheme(B)))


if __name__ == "__main__":
    unittest.main()
