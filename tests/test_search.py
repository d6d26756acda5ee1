"""[40], [41], [42]: contexts and their papers."""

import itertools
import random
import unittest

from leastneeds.declarations import Derive
from leastneeds.errors import InvalidNeed
from leastneeds.kinds import con, put, size_of, to
from leastneeds.program import Program
from leastneeds.schemes import Scheme
from leastneeds.search import Context
from leastneeds.uniting import fits
from samples import A, B, C, F, LIST, PAIR, TEXT, TRUTH, WHOLE, case, lattice, listed, pair, role, settling, used


def put_all(needs, by):
    return [(need[0], *[put(kind, by) for kind in need[1:]]) for need in needs]


def case_at(program, need):
    for name in program.cases_of(need[0]):
        told = program.case_named(name)
        by = fits(told.kinds, need[1:])
        if by is not None:
            return name, put_all(told.needs, by)
    return None


def steps(program, need):
    told = program.role_named(need[0])
    above = put_all(told.above, dict(zip(told.variables, need[1:])))
    found = [(("above", k), other) for k, other in enumerate(above)]
    at = case_at(program, need)
    return found + [(("part", k), other) for k, other in enumerate(at[1] if at else [])]


def given_papers(program, needs):
    """All papers "given", with their needs, by the words of [40] and [41]."""
    found = []

    def follow(index, need, path):
        found.append((need, ("given", index, path)))
        for step, other in steps(program, need):
            follow(index, other, path + (step,))

    for index, need in enumerate(needs):
        follow(index, need, ())
    return found


def all_papers(program, needs, need):
    found = [paper for other, paper in given_papers(program, needs) if other == need]
    at = case_at(program, need)
    if at:
        rows = [all_papers(program, needs, part) for part in at[1]]
        found += [("case", at[0], papers) for papers in itertools.product(*rows)]
    return found


def size(paper):
    return 1 + (len(paper[2]) if paper[0] == "given" else sum(size(inner) for inner in paper[2]))


def rank(paper):
    if paper[0] == "given":
        return (size(paper), 0, paper[1], paper[2])
    return (size(paper), 1, tuple(rank(inner) for inner in paper[2]))


def is_lacking(program, needs, need, paper):
    """Whether a paper of lacking is right, by the words of [42]."""
    had = [other for other, _ in given_papers(program, needs)]
    rows = paper[1]
    fine = paper[0] == "lacking" and need in rows and not any(row in had for row in rows)
    fine = fine and all(rows.count(row) == 1 for row in rows) and isinstance(rows, tuple)
    return fine and all(any(part in rows for part in case_at(program, row)[1]) for row in rows if case_at(program, row))


class TestContext(unittest.TestCase):
    @classmethod
    def setUpClass(cls):
        cls.program = lattice()

    def test_properties(self):
        needs = [("low", A), ("top", listed(A)), ("low", A)]
        context = Context(self.program, *needs)
        other = Context.given_by(self.program, needs)
        named = Context.given_by(program=self.program, needs=tuple(needs))
        needs.append(("low", B))
        self.assertEqual(other.needs, tuple(needs[:3]))
        self.assertIs(context.program, self.program)
        self.assertEqual(len(context), 3)
        self.assertEqual(len(Context(self.program)), 0)
        self.assertTrue(context == other and context == named)

    def test_equality(self):
        one = Context(self.program, ("low", A), ("mid", A))
        self.assertTrue(one == Context(lattice(), ("low", A), ("mid", A)))
        self.assertFalse(one == Context(self.program, ("mid", A), ("low", A)))
        self.assertFalse(one == Context(self.program, ("low", A)))
        self.assertFalse(one == Context(self.program, ("low", B), ("mid", B)))
        self.assertFalse(one == Context(lattice().with_more(role("more")), ("low", A), ("mid", A)))
        self.assertFalse(one == one.needs)
        self.assertFalse(Context(Program()) == Program())

    def wrong(self, value, make):
        with self.assertRaises(InvalidNeed) as caught:
            make()
        self.assertEqual(caught.exception.value, value)
        self.assertIs(type(caught.exception.value), type(value))

    def test_invalid_needs(self):
        program = settling()
        context = Context(program, ("plain", A))
        for value in (
            None, True, 1, "plain", (), ("plain",), ["plain", A], ("plain", A, A), ("turns", A), ("turns", A, A, A), ("none", A),
            ("plain", con("none")), ("plain", listed(con("none"))), ("plain", con("list")), ("plain", con("to", A)),
            ("plain", used(listed(A), A)), ("plain", used(F, F)), ("turns", F, used(F, A)), ("turns", used(F, A), listed(F)),
            ("plain", ["var", "a"]), ("as", A), (["plain"], A), ("plain", None), ("list", A), ("plain", used(WHOLE, A)),
            ("plain", used(F, used(F, A, A))), Scheme(A), program, (None, A),
        ):
            self.wrong(value, lambda: Context(program, ("plain", A), value, ("none", B)))
            self.wrong(value, lambda: Context.given_by(program, [("plain", A), value, None]))
            self.wrong(value, lambda: context.meets(value))
            self.wrong(value, lambda: context.paper(value))
            self.wrong(value, lambda: next(context.papers(value)))
            self.wrong(value, lambda: context.lacking(value))
        context.papers(None)
        for need in (("plain", used(F, A)), ("turns", used(F, A), used(F, listed(A))), ("plain", to(A, used(F, A, B)))):
            Context(program, need)

    def test_shapes_of_places(self):
        maps = role("maps", variables=("f",), kind=to(used(F, A), WHOLE))
        program = Program(maps, LIST, case("mapslist", "maps", [con("list")]), case("mapsto", "maps", [con("to", A)]))
        context = Context(program, ("maps", F), ("maps", used(F, A)))
        self.assertTrue(context.meets(("maps", con("list"))))
        self.assertEqual(context.paper(("maps", con("to", WHOLE))), ("case", "mapsto", ()))
        for value in (("maps", WHOLE), ("maps", listed(A)), ("maps", con("to")), ("maps", used(con("list"), con("list")))):
            self.wrong(value, lambda: context.meets(value))

    def test_unlike_programs(self):
        other = Program(role("low"), role("extra"))
        mine = Context(self.program, ("low", A), ("mid", A))
        self.wrong(("mid", A), lambda: mine.is_met_by(Context(other)))
        self.wrong(("extra", A), lambda: mine.joined(Context(other, ("low", B), ("extra", A))))
        self.assertTrue(Context(other, ("low", A)).is_met_by(mine))
        self.assertFalse(Context(other, ("low", B)).is_met_by(mine))
        self.assertFalse(Context(self.program, ("low", WHOLE)).is_met_by(Context(other)))
        self.assertTrue(Context(other, ("low", WHOLE)).is_met_by(Context(self.program)))
        joined = mine.joined(Context(other, ("low", B)))
        self.assertEqual(joined.needs, (("low", A), ("mid", A), ("low", B)))
        self.assertTrue(joined.program == self.program)

    def test_is_met_by_and_joined(self):
        one = Context(self.program, ("low", A), ("mid", listed(A)))
        two = Context(self.program, ("top", listed(A)))
        self.assertTrue(one.is_met_by(two))
        self.assertFalse(two.is_met_by(one))
        self.assertTrue(one.is_met_by(other=one))
        self.assertTrue(Context(self.program).is_met_by(Context(self.program)))
        self.assertTrue(one.joined(two) == Context(self.program, *one.needs, *two.needs))
        self.assertTrue(two.joined(other=one) == Context(self.program, *two.needs, *one.needs))

    def test_each_way(self):
        context = Context(self.program, ("low", listed(A)), ("top", B), ("mid", pair(A, C)))
        for need, paper in (
            (("low", listed(A)), ("given", 0, ())),
            (("low", A), ("given", 0, (("part", 0),))),
            (("mid", B), ("given", 1, (("above", 0),))),
            (("low", B), ("given", 1, (("above", 0), ("above", 0)))),
            (("low", WHOLE), ("case", "lowwhole", ())),
            (("mid", listed(WHOLE)), ("case", "midlist", (("case", "lowwhole", ()),))),
            (("mid", A), ("given", 2, (("part", 0),))),
            (("low", C), ("given", 2, (("part", 1),))),
            (("top", listed(B)), ("case", "toplist", (("given", 1, ()), ("given", 1, (("above", 1),))))),
            (("low", pair(A, C)), ("given", 2, (("above", 0),))),
            (("side", A), None),
            (("top", pair(B, B)), None),
            (("low", to(A, A)), None),
        ):
            self.assertEqual(context.paper(need), paper)
            self.assertEqual(context.paper(need=need), paper)
            self.assertIs(context.meets(need), paper is not None)
            self.assertIs(context.meets(need=need), paper is not None)
            self.assertEqual(context.lacking(need) is None, paper is not None)

    def test_all_needs(self):
        context = Context(self.program, ("top", A), ("mid", listed(B)), ("top", A))
        self.assertEqual(
            context.all_needs(),
            (
                (("top", A), ("given", 0, ())),
                (("mid", listed(B)), ("given", 1, ())),
                (("mid", A), ("given", 0, (("above", 0),))),
                (("side", A), ("given", 0, (("above", 1),))),
                (("low", listed(B)), ("given", 1, (("above", 0),))),
                (("low", B), ("given", 1, (("part", 0),))),
                (("low", A), ("given", 0, (("above", 0), ("above", 0)))),
            ),
        )
        self.assertEqual(Context(self.program).all_needs(), ())
        self.assertEqual(Context(self.program, ("low", WHOLE)).all_needs(), ((("low", WHOLE), ("given", 0, ())),))

    def test_order_of_papers(self):
        context = Context(self.program, ("mid", A), ("low", A), ("side", A))
        papers = [("given", 1, ()), ("given", 0, (("above", 0),)), ("given", 2, (("above", 0),))]
        self.assertEqual(list(context.papers(("low", A))), papers)
        self.assertEqual(list(context.papers(need=("low", listed(A)))), [("case", "lowlist", (paper,)) for paper in papers])
        rows = list(context.papers(("low", pair(A, A))))
        self.assertEqual(rows, sorted(rows, key=rank))
        self.assertEqual(rows[1], ("case", "lowpair", (papers[0], papers[1])))
        self.assertEqual(len(rows), 9)
        # Of one size "given" comes first, also one with a greater index or path.
        context = Context(self.program, ("mid", WHOLE), ("low", listed(WHOLE)), ("low", WHOLE))
        self.assertEqual(
            list(context.papers(("low", WHOLE)))[:3], [("given", 2, ()), ("case", "lowwhole", ()), ("given", 0, (("above", 0),))]
        )
        self.assertEqual(list(context.papers(("side", A))), [])

    def test_order_of_inner_papers(self):
        # The inner need has papers by a case that are smaller than those that are given.
        needs = [("top", listed(WHOLE))]
        need = ("low", pair(listed(WHOLE), listed(WHOLE)))
        papers = sorted(all_papers(self.program, needs, need), key=rank)
        self.assertEqual(list(Context(self.program, *needs).papers(need)), papers)
        self.assertEqual([inner[0] for inner in papers[0][2]], ["case", "case"])
        self.assertEqual([inner[0] for inner in papers[1][2]], ["case", "given"])

    def test_papers_of_derived_cases(self):
        program = Program(LIST, Derive("slist", "same", "list"), Derive("olist", "order", "list"))
        context = Context(program, ("order", listed(A)))
        self.assertEqual(
            list(context.papers(("same", A))),
            [("given", 0, (("above", 0), ("part", 0))), ("given", 0, (("part", 0), ("above", 0)))],
        )
        self.assertEqual(context.paper(("order", listed(TRUTH))), ("case", "olist", (("case", "otruth", ()),)))
        self.assertIsNone(context.paper(("order", to(A, A))))

    def test_against_all_papers(self):
        chance = random.Random(7)
        kinds = [A, B, WHOLE, listed(A), listed(listed(A)), pair(A, B), pair(A, A), listed(pair(A, WHOLE)), pair(listed(A), B), TEXT]
        roles = ["low", "mid", "side", "top"]
        every = [(name, kind) for name in roles for kind in kinds]
        for _ in range(150):
            needs = [chance.choice(every) for _ in range(chance.randrange(4))]
            context = Context(self.program, *needs)
            had = given_papers(self.program, needs)
            first = sorted((min(rank(paper) for other, paper in had if other == need), need) for need, _ in had)
            told = [(rank(paper), need) for need, paper in context.all_needs()]
            self.assertEqual(told, [row for k, row in enumerate(first) if row not in first[:k]])
            for need in chance.sample(every, 8):
                papers = sorted(all_papers(self.program, needs, need), key=rank)
                self.assertEqual(list(context.papers(need)), papers)
                self.assertEqual(context.paper(need), papers[0] if papers else None)
                self.assertEqual(context.meets(need), papers != [])
                lacking = context.lacking(need)
                self.assertEqual(lacking is None, papers != [])
                if lacking:
                    self.assertTrue(is_lacking(self.program, needs, need, lacking))

    def test_lacking(self):
        context = Context(self.program, ("low", A))
        self.assertEqual(context.lacking(("low", B)), ("lacking", (("low", B),)))
        self.assertIsNone(context.lacking(need=("low", listed(A))))
        for need in (("top", listed(pair(A, B))), ("low", pair(A, pair(A, B))), ("low", to(A, A)), ("mid", pair(A, A))):
            self.assertTrue(is_lacking(self.program, context.needs, need, context.lacking(need)))

    def test_first_papers_of_very_many(self):
        # Twice as many papers for each pair: the first ones come without the last ones.
        context = Context(self.program, ("low", A), ("low", A))
        kind = A
        for _ in range(6):
            kind = pair(kind, kind)
        papers = context.papers(("low", kind))
        first = [next(papers) for _ in range(40)]
        self.assertEqual(first[0], context.paper(("low", kind)))
        self.assertEqual(first, sorted(first, key=rank))
        self.assertEqual(len({repr(paper) for paper in first}), 40)
        self.assertEqual(size(first[39]), size(first[0]))
        self.assertEqual(size_of(kind), 127)

    def test_first_paths_of_very_many(self):
        rows = [role("bottom")]
        below = "bottom"
        for letter in "abcdefghijklmnopqrstuvwxyz":
            rows += [role("l" + letter, (below, A)), role("r" + letter, (below, A))]
            rows.append(role("t" + letter, ("l" + letter, A), ("r" + letter, A)))
            below = "t" + letter
        context = Context(Program(*rows), ("tz", A))
        papers = context.papers(("bottom", A))
        first = [next(papers) for _ in range(5)]
        self.assertEqual(first[0], ("given", 0, (("above", 0),) * 52))
        self.assertEqual(first[1], ("given", 0, (("above", 0),) * 50 + (("above", 1), ("above", 0))))
        self.assertEqual(first, sorted(first, key=rank))
        self.assertTrue(context.meets(("bottom", A)))

    def test_deep_needs(self):
        program = Program(LIST, role("low"), role("mid", ("low", A)), case("l", "low", [listed(A)], ("low", A)), case("m", "mid", [listed(A)], ("mid", A), ("low", A)))
        kind = A
        for _ in range(40):
            kind = listed(kind)
        self.assertEqual(size(Context(program, ("low", A)).paper(("low", kind))), 41)
        self.assertEqual(len(Context(program, ("mid", kind)).all_needs()), 82)
        self.assertFalse(Context(program, ("low", A)).meets(("mid", kind)))
        self.assertTrue(Context(program, ("mid", A)).meets(("mid", kind)))


if __name__ == "__main__":
    unittest.main()
