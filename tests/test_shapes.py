"""[14], [15]: shapes."""

import unittest

from leastneeds.declarations import Case, Data, Definition, Role
from leastneeds.errors import Misshapen, UnknownName
from leastneeds.kinds import con, to, var
from leastneeds.program import Program
from leastneeds.schemes import Scheme
from leastneeds.shapes import shape_of, shapes_of
from samples import A, B, C, F, G, LIST, PAIR, TEXT, TRUTH, UNIT, WHOLE, case, listed, pair, role, used

X = ("given", "x", ("name", "x"))
TWO = ("a", "b")
# A role whose second place has its shape from elsewhere alone.
LINK = role("link", variables=TWO, settles=((0, 1),), kind=to(A, WHOLE))


def mapping(name="maps", *above):
    return role(name, *above, variables=("f",), kind=to(used(F, A), used(F, B)))


class TestShapeOf(unittest.TestCase):
    def setUp(self):
        self.program = Program(LIST, PAIR, UNIT)

    def check(self, kind, shape, **shapes):
        self.assertEqual(shape_of(self.program, kind, shapes), shape)
        self.assertEqual(shape_of(program=self.program, kind=kind, shapes=shapes), shape)

    def test_constructors(self):
        for name, shape in (("whole", 0), ("text", 0), ("truth", 0), ("to", 2), ("unit", 0), ("list", 1), ("pair", 2)):
            self.check(con(name), shape)
        self.check(con("to", WHOLE), 1)
        self.check(con("pair", TEXT), 1)
        self.check(pair(listed(WHOLE), to(TEXT, TEXT)), 0)

    def test_variables(self):
        self.check(A, 0, a=0)
        self.check(A, 3, a=3)
        self.check(used(A, WHOLE), 2, a=3)
        self.check(used(F, WHOLE, B), 0, f=2, b=0)
        self.check(listed(used(F, A)), 0, f=1, a=0)
        self.check(pair(A, A), 0, a=0, b=7)

    def test_none(self):
        self.check(A, None)
        self.check(A, None, b=0)
        self.check(listed(A), None, b=0)
        self.check(con("other"), None)
        self.check(listed(con("other")), None)
        self.check(used(WHOLE, WHOLE), None)
        self.check(used(listed(A), A), None, a=0)
        self.check(con("to", WHOLE, TEXT, TEXT), None)
        self.check(used(A, WHOLE), None, a=0)
        self.check(used(F, WHOLE, WHOLE), None, f=1)
        self.check(listed(con("list")), None)
        self.check(listed(A), None, a=1)
        self.check(to(con("pair", A), A), None, a=0)
        self.check(used(F, F), None, f=1)


class TestShapesOf(unittest.TestCase):
    def shapes(self, role_name, *declarations):
        return shapes_of(Program(*declarations), role_name)

    def misshapen(self, index, *declarations, **more):
        with self.assertRaises(Misshapen) as caught:
            Program(*declarations, **more)
        self.assertEqual(caught.exception.index, index)

    def test_built_in(self):
        program = Program()
        for name in ("same", "order", "words"):
            self.assertEqual(shapes_of(program=program, role=name), (0,))
        for value in (None, 1, "other", "truth", "alike", "", ("same",), ["same"], {}, program, Scheme(A), True):
            with self.assertRaises(UnknownName) as caught:
                shapes_of(program, value)
            self.assertIs(caught.exception.value, value)

    def test_members(self):
        self.assertEqual(self.shapes("maps", mapping()), (1,))
        self.assertEqual(self.shapes("r", role("r", variables=("f",), kind=used(F, A, B))), (2,))
        self.assertEqual(self.shapes("r", role("r", variables=TWO, kind=used(B, A))), (0, 1))

    def test_variables_of_members(self):
        # A variable that a member has beside the role has a shape of its own in each member.
        members = [("one", to(A, used(C, A)), (), None), ("two", to(A, C), (), None)]
        self.assertEqual(self.shapes("r", Role("r", ("a",), members)), (0,))
        self.misshapen(0, Role("r", ("a",), [("one", to(A, used(C, A), C), (), None)]))
        self.misshapen(0, Role("r", ("a",), [("one", used(A, WHOLE), (), None), ("two", A, (), None)]))
        members = [("one", to(A, used(G, A)), [("maps", G)], None)]
        self.assertEqual(self.shapes("r", mapping(), Role("r", ("a",), members)), (0,))
        self.misshapen(1, mapping(), Role("r", ("a",), [("one", to(A, C), [("maps", C)], None)]))
        self.misshapen(1, Role("r", ("a",), [("one", to(A, C), [("maps", C)], None)]), mapping())

    def test_above(self):
        self.assertEqual(self.shapes("r", mapping(), mapping("r", ("maps", F))), (1,))
        self.misshapen(1, mapping(), role("r", ("maps", A)))
        self.misshapen(1, role("r", ("maps", A)), mapping())
        self.misshapen(0, role("r", ("same", A, B), variables=TWO))
        self.misshapen(0, role("r", ("pairs", A)), role("pairs", variables=TWO))
        self.misshapen(0, mapping("r", ("same", F)))

    def test_from_one_another(self):
        over = role("over", ("link", A, B), variables=TWO, settles=((0, 1),), kind=to(A, WHOLE))
        fixed = role("fixed", ("over", A, B), variables=TWO, kind=to(A, used(B, A)))
        self.assertEqual(self.shapes("link", LINK), (0, 0))
        self.assertEqual(self.shapes("link", over, LINK), (0, 0))
        self.assertEqual(self.shapes("link", LINK, over, fixed), (0, 1))
        self.assertEqual(self.shapes("over", fixed, over, LINK), (0, 1))
        flat = role("flat", ("link", A, B), variables=TWO)
        self.misshapen(3, LINK, over, fixed, flat)
        self.misshapen(3, flat, LINK, over, fixed)

    def test_least(self):
        # What stands ahead of a part at a place lacks one part more than the place.
        kind = to(A, WHOLE)
        member = ("m", kind, [("link", A, used(B, A))], None)
        more = Role("more", TWO, [member], settles=((0, 1),))
        self.assertEqual(self.shapes("more", LINK, more), (0, 1))
        self.assertEqual(self.shapes("link", LINK, more), (0, 0))
        third = Role("third", TWO, [("t", kind, [("more", A, used(B, A))], None)], settles=((0, 1),))
        self.assertEqual(self.shapes("third", third, more, LINK), (0, 2))
        ring = Role("ring", TWO, [("g", kind, [("ring", A, used(B, A))], None)], settles=((0, 1),))
        self.misshapen(0, ring)

    def test_least_of_places_apart(self):
        # A variable of two shapes more than one place and one more than another: the other has one more.
        kind = to(A, WHOLE)
        more = role("more", variables=TWO, settles=((0, 1),), kind=kind)
        for needs in ([("link", A, used(B, A, A)), ("more", A, used(B, A))], [("more", A, used(B, A)), ("link", A, used(B, A, A))]):
            third = Role("third", TWO, [("t", kind, needs, None)], settles=((0, 1),))
            for rows in ((LINK, more, third), (third, more, LINK)):
                self.assertEqual([self.shapes(name, *rows) for name in ("link", "more", "third")], [(0, 0), (0, 1), (0, 2)])
        fixed = role("fixed", ("link", A, B), variables=TWO, kind=to(A, used(B, A, A)))
        self.assertEqual([self.shapes(name, LINK, more, third, fixed) for name in ("link", "more", "third")], [(0, 2), (0, 3), (0, 4)])
        flat = role("flat", ("more", A, B), variables=TWO)
        self.misshapen(3, LINK, more, third, flat)
        self.misshapen(3, flat, more, LINK, third)

    def test_cases_tell_shapes_too(self):
        self.assertEqual(self.shapes("link", LINK, LIST, case("c", "link", [WHOLE, con("list")])), (0, 1))
        self.assertEqual(self.shapes("link", LINK, PAIR, case("c", "link", [WHOLE, con("pair")])), (0, 2))
        self.misshapen(2, LINK, case("c", "link", [WHOLE, TEXT]), case("d", "link", [TEXT, con("to")]))
        told = Definition("f", X, told=Scheme(to(used(F, A), WHOLE, A), ("link", A, F)))
        self.assertEqual(self.shapes("link", LINK, told, LIST, case("c", "link", [WHOLE, con("list")])), (0, 1))
        self.misshapen(2, LINK, told, case("c", "link", [WHOLE, TEXT]))

    def test_data(self):
        self.misshapen(0, Data("d", ("a",), [("c", (used(A, WHOLE),))]))
        self.misshapen(0, Data("d", (), [("c", (con("to"),))]))
        self.misshapen(0, Data("d", (), [("b", ()), ("c", (WHOLE, con("list")))]), LIST)
        self.misshapen(0, Data("d", ("a",), [("c", (listed(A),)), ("e", (con("d"),))]), LIST)
        self.misshapen(0, Data("d", (), [("c", (used(WHOLE, TEXT),))]))
        self.misshapen(1, UNIT, Data("d", (), [("c", (pair(WHOLE, con("list")),))]), LIST, PAIR)
        Program(Data("d", ("a",), [("c", (to(listed(A), pair(A, con("d", A))),))]), LIST, PAIR)

    def test_cases(self):
        self.misshapen(1, mapping(), case("c", "maps", [WHOLE]))
        self.misshapen(2, mapping(), LIST, case("c", "maps", [listed(A)]))
        self.misshapen(0, case("c", "same", [con("list")]), LIST)
        self.misshapen(0, case("c", "same", [listed(A), WHOLE]), LIST)
        self.misshapen(1, LINK, case("c", "link", [WHOLE]))
        self.misshapen(2, mapping(), PAIR, case("c", "same", [pair(A, B)], ("maps", A)))
        self.misshapen(2, mapping(), PAIR, case("c", "same", [pair(A, B)], ("same", A, B)))
        self.misshapen(2, mapping(), PAIR, case("c", "same", [pair(A, used(A, B))]))
        Program(mapping(), PAIR, LIST, case("c", "maps", [con("pair", A)], ("same", A)))
        both = Data("both", ("a",), [("tag", (WHOLE,))])
        Program(mapping(), both, Case("c", "same", [con("both", used(F, A))], [("alike", X)]))
        head = [used(con("list"), used(F, A)), F]
        Program(LINK, mapping(), LIST, case("c", "link", head, ("maps", F)), case("d", "maps", [con("list")]))

    def test_told_schemes(self):
        def told(kind, *needs):
            return Definition("f", X, told=Scheme(kind, *needs))

        self.misshapen(1, LIST, told(con("list")))
        self.misshapen(1, mapping(), told(to(A, WHOLE), ("maps", A)))
        self.misshapen(0, told(to(A, used(A, A))))
        self.misshapen(0, told(to(A, B), ("same", A, B)))
        Program(mapping(), told(to(used(F, A), A), ("maps", F)), LIST, case("c", "maps", [con("list")]))

    def test_picks(self):
        self.misshapen(0, picks=[con("to")])
        self.misshapen(1, LIST, picks=[listed(WHOLE), con("list")])
        self.misshapen(1, LIST, picks=[used(listed(WHOLE), WHOLE)])
        Program(LIST, picks=[listed(WHOLE), WHOLE, TRUTH])

    def test_first_declaration(self):
        bad = Data("bad", ("a",), [("c", (used(A, A),))])
        worse = Data("worse", ("a",), [("e", (used(A, A),))])
        self.misshapen(1, LIST, bad, worse, picks=[con("to")])


if __name__ == "__main__":
    unittest.main()
