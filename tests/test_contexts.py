"""[43] to [46]: improving, least contexts, entailing, hopeless needs."""

import itertools
import random
import unittest

from leastneeds.contexts import entails, hopeless, improving, least
from leastneeds.declarations import Derive
from leastneeds.improvement import is_clear, is_steady, known_by
from leastneeds.kinds import con, put, text_of, to, variables_of
from leastneeds.program import Program
from leastneeds.search import Context
from leastneeds.uniting import fits
from samples import A, B, C, D, F, G, LIST, PAIR, TEXT, TRUTH, WHOLE, case, lattice, listed, pair, role, settling, used

TWO = ("a", "b")


def put_all(needs, by):
    return [(need[0], *[put(kind, by) for kind in need[1:]]) for need in needs]


def is_improved(program, needs):
    """Whether needs are improved as they are, by the words of [43]."""
    had = [need for need, _ in Context.given_by(program, needs).all_needs()]
    for need in had:
        for i, j in program.role_named(need[0]).settles:
            for other in had:
                if other[0] == need[0] and other[1 + i] == need[1 + i] and other[1 + j] != need[1 + j]:
                    return False
            for name in program.cases_of(need[0]):
                told = program.case_named(name)
                by = fits([told.kinds[i]], [need[1 + i]])
                if by is not None and put(told.kinds[j], by) != need[1 + j]:
                    return False
    return True


class TestImproving(unittest.TestCase):
    @classmethod
    def setUpClass(cls):
        cls.program = settling()

    def check(self, needs, expected, given=(), fixed=()):
        """The answer for needs in each order."""
        for rows in itertools.permutations(needs):
            by = improving(self.program, rows, given, fixed)
            if expected is None:
                self.assertIsNone(by)
                continue
            self.assertTrue(is_improved(self.program, put_all(rows, by) + list(given)))
            own = {name for need in rows for name in variables_of(*need[1:])}
            barred = {name for need in given for name in variables_of(*need[1:])} | set(fixed)
            for name, kind in by.items():
                self.assertIn(name, own - barred)
                self.assertTrue(all(name not in variables_of(other) for other in by.values()))
            # The answer is as general as the expected one: each is the other with kinds put in.
            names = sorted(own | set(expected))
            mine = [put(("var", name), by) for name in names]
            other = [put(("var", name), expected) for name in names]
            self.assertIsNotNone(fits(mine, other))
            self.assertIsNotNone(fits(other, mine))

    def test_as_they_are(self):
        for needs in (
            [], [("plain", A)], [("turns", A, B)], [("turns", A, B), ("turns", B, C)], [("turns", WHOLE, TEXT)],
            [("turns", A, C), ("turns", B, C)], [("back", A, B), ("back", A, C)], [("loose", A, B), ("loose", A, C)],
            [("turns", A, B), ("turns", A, B)], [("loose", listed(A), B)], [("turns", listed(A), pair(A, A))],
            [("turns", A, TEXT), ("over", B, TEXT)], [("both", A, B), ("both", C, D)], [("plain", listed(A))],
        ):
            self.assertEqual(improving(self.program, needs), {})
            self.assertEqual(improving(program=self.program, needs=tuple(needs), given=(), fixed=()), {})

    def test_two_needs(self):
        self.check([("turns", A, B), ("turns", A, C)], {"b": C})
        self.check([("back", A, B), ("back", C, B)], {"a": C})
        self.check([("both", A, B), ("both", A, C)], {"b": C})
        self.check([("both", A, B), ("both", C, B)], {"a": C})
        self.check([("turns", A, B), ("turns", A, listed(C))], {"b": listed(C)})
        self.check([("turns", A, WHOLE), ("turns", A, TEXT)], None)
        self.check([("turns", A, B), ("turns", A, listed(B))], None)
        self.check([("both", A, B), ("both", A, C), ("both", D, B)], {"b": C, "d": A})
        self.check([("turns", used(F, A), B), ("turns", used(F, A), C)], {"b": C})

    def test_above_and_parts(self):
        self.check([("over", A, B), ("turns", A, C)], {"b": C})
        self.check([("over", A, B), ("over", A, C)], {"b": C})
        self.check([("loose", listed(A), B), ("turns", A, C)], {"b": C})
        self.check([("loose", listed(A), B), ("loose", listed(A), C)], {"b": C})
        self.check([("loose", listed(WHOLE), B)], {"b": TEXT})
        self.check([("loose", listed(WHOLE), TRUTH)], None)

    def test_cases(self):
        self.check([("turns", WHOLE, A)], {"a": TEXT})
        self.check([("turns", WHOLE, WHOLE)], None)
        self.check([("turns", listed(A), B)], {"b": pair(A, A)})
        self.check([("turns", listed(A), pair(B, C))], {"b": A, "c": A})
        self.check([("turns", listed(A), A)], None)
        self.check([("back", A, TEXT)], {"a": TRUTH})
        self.check([("back", TRUTH, A)], {})
        self.check([("both", A, pair(B, WHOLE))], {"a": listed(B)})
        self.check([("both", listed(A), B)], {"b": pair(A, WHOLE)})
        self.check([("both", A, pair(B, C))], {})
        self.check([("turns", TEXT, A)], {})
        self.check([("over", WHOLE, A)], {"a": TEXT})

    def test_chains(self):
        self.check([("turns", A, B), ("turns", A, C), ("turns", B, D), ("turns", C, WHOLE)], {"b": C, "d": WHOLE})
        self.check([("turns", WHOLE, A), ("back", B, A), ("turns", B, C)], {"a": TEXT, "b": TRUTH})
        self.check([("turns", A, listed(B)), ("turns", A, C), ("turns", C, D)], {"c": listed(B), "d": pair(B, B)})
        needs = [("both", listed(WHOLE), A), ("both", B, A), ("loose", B, C), ("turns", C, D)]
        self.check(needs, {"a": pair(WHOLE, WHOLE), "b": listed(WHOLE), "c": TEXT})
        self.check([("turns", A, B), ("turns", A, C), ("turns", B, WHOLE), ("turns", C, TEXT)], None)

    def test_given_and_fixed(self):
        self.check([("turns", A, B)], {"b": C}, given=[("turns", A, C)])
        self.check([("turns", A, B)], {"b": WHOLE}, given=[("turns", A, WHOLE)])
        self.check([("turns", A, B), ("plain", C)], {"b": C}, given=[("over", A, C)])
        self.check([("turns", A, B)], None, given=[("turns", A, C), ("plain", B)])
        self.check([("turns", A, B), ("turns", A, C)], {"c": B}, fixed=["b"])
        self.check([("turns", A, B), ("turns", A, C)], {"b": C}, fixed=("a", "c"))
        self.check([("turns", A, B), ("turns", A, C)], None, fixed=["b", "c"])
        self.check([("turns", WHOLE, B)], None, fixed=["b"])
        self.check([("turns", listed(A), pair(B, C))], {"b": A, "c": A}, fixed=["a"])
        self.check([("turns", listed(A), pair(B, C))], {"a": B, "c": B}, fixed=["b"])
        self.check([], {}, given=[("turns", A, B)])
        self.check([], None, given=[("turns", WHOLE, A)])
        self.check([("plain", C)], None, given=[("turns", A, B), ("turns", A, C)])
        self.check([("turns", A, B)], {"b": C}, given=[("loose", listed(A), C)])
        # Kinds are put in for variables, and only then a given need has the same kind.
        needs = [("back", A, TEXT), ("turns", A, B)]
        self.check(needs, {"a": TRUTH, "b": D}, given=[("turns", TRUTH, D)])

    def test_most_general(self):
        chance = random.Random(3)
        kinds = [A, B, C, D, WHOLE, TEXT, TRUTH, listed(A), listed(B), pair(A, B), pair(C, WHOLE), listed(WHOLE)]
        ground = [WHOLE, TEXT, TRUTH, listed(WHOLE), pair(WHOLE, WHOLE), pair(TEXT, TEXT)]
        for _ in range(120):
            needs = [(chance.choice(["turns", "back", "both", "loose", "over"]), chance.choice(kinds), chance.choice(kinds)) for _ in range(3)]
            by = improving(self.program, needs)
            if by is not None:
                self.assertTrue(is_improved(self.program, put_all(needs, by)))
            for _ in range(60):
                way = {name: chance.choice(ground) for name in "abcd"}
                if is_improved(self.program, put_all(needs, way)):
                    self.assertIsNotNone(by)
                    self.assertTrue(all(put(put(kind, by), way) == put(kind, way) for kind in (A, B, C, D)))


class TestLeast(unittest.TestCase):
    def check(self, program, needs, expected):
        for rows in itertools.permutations(needs):
            self.assertEqual(least(program, rows), tuple(expected))
        self.assertEqual(least(program=program, needs=list(needs) + list(needs)), tuple(expected))

    def test_lattice(self):
        program = lattice()
        self.check(program, [], [])
        self.check(program, [("low", A)], [("low", A)])
        self.check(program, [("low", WHOLE)], [])
        self.check(program, [("low", listed(A)), ("low", pair(A, B))], [("low", A), ("low", B)])
        self.check(program, [("low", A), ("mid", A)], [("mid", A)])
        self.check(program, [("low", A), ("mid", A), ("side", A), ("top", A)], [("top", A)])
        self.check(program, [("mid", listed(listed(A)))], [("low", A)])
        self.check(program, [("mid", listed(A)), ("mid", A)], [("mid", A)])
        self.check(program, [("top", listed(A)), ("low", B)], [("low", B), ("top", A)])
        self.check(program, [("mid", pair(A, listed(A)))], [("mid", A)])
        self.check(program, [("side", pair(A, B))], [("side", pair(A, B))])
        self.check(program, [("low", TEXT), ("low", used(F, A))], [("low", used(F, A)), ("low", TEXT)])

    def test_order(self):
        program = settling()
        needs = [
            ("turns", B, A), ("plain", used(F, A)), ("plain", pair(A, B)), ("plain", TEXT), ("plain", B), ("turns", A, C),
            ("loose", C, B), ("loose", C, A), ("plain", to(A, B)),
        ]
        expected = sorted(needs, key=lambda need: (need[0], [text_of(kind) for kind in need[1:]]))
        self.assertEqual(least(program, needs), tuple(expected))
        self.assertEqual([text_of(need[1]) for need in expected if need[0] == "plain"], ["'a -> 'b", "'b", "'f 'a", "pair 'a 'b", "text"])
        self.assertEqual(least(program, needs[::-1]), tuple(expected))

    def test_cases_of_other_roles(self):
        # What is above a need may fit a case while the need does not.
        program = Program(
            LIST, role("low", variables=TWO), role("high", ("low", A, B), variables=TWO), role("one"),
            case("lowb", "low", [A, WHOLE], ("one", A)), case("onelist", "one", [listed(A)], ("one", A)),
        )
        self.check(program, [("high", A, WHOLE), ("one", A)], [("high", A, WHOLE)])
        self.check(program, [("high", A, WHOLE), ("low", A, WHOLE)], [("high", A, WHOLE)])
        self.check(program, [("high", listed(B), WHOLE), ("one", B)], [("high", listed(B), WHOLE)])
        self.check(program, [("low", listed(listed(B)), WHOLE)], [("one", B)])

    def test_derived(self):
        program = Program(LIST, PAIR, *[Derive(word[0] + name, word, name) for word in ("same", "order", "words") for name in ("list", "pair")])
        self.check(program, [("order", listed(pair(A, B))), ("same", listed(A))], [("order", A), ("order", B)])
        self.check(program, [("words", pair(A, A)), ("same", WHOLE)], [("words", A)])

    def test_least_is_least(self):
        program = lattice()
        chance = random.Random(5)
        kinds = [A, B, WHOLE, listed(A), listed(listed(B)), pair(A, B), pair(A, listed(A)), TEXT, used(F, A)]
        for _ in range(100):
            needs = [(chance.choice(["low", "mid", "side", "top"]), chance.choice(kinds)) for _ in range(4)]
            found = least(program, needs)
            self.assertTrue(entails(program, needs, found) and entails(program, found, needs))
            for k, need in enumerate(found):
                self.assertFalse(entails(program, found[:k] + found[k + 1 :], [need]))
                for name in program.cases_of(need[0]):
                    self.assertIsNone(fits(program.case_named(name).kinds, need[1:]))
            chance.shuffle(needs)
            self.assertEqual(least(program, needs), found)


class TestEntails(unittest.TestCase):
    def test_entails(self):
        program = lattice()
        for one, other, answer in (
            ([], [], True), ([("low", A)], [], True), ([], [("low", A)], False), ([], [("low", WHOLE)], True),
            ([("top", A)], [("low", A), ("mid", listed(A))], True), ([("low", A)], [("mid", A)], False),
            ([("low", A)], [("low", A), ("low", B)], False), ([("low", A), ("low", B)], [("low", pair(A, listed(B)))], True),
            ([("mid", listed(A))], [("low", A)], True), ([("low", A)], [("mid", listed(A)), ("low", listed(listed(A)))], True),
        ):
            self.assertIs(entails(program, one, other), answer)
            self.assertIs(entails(program=program, one=tuple(one), other=tuple(other)), answer)


class TestHopeless(unittest.TestCase):
    def check(self, program, need, answer, given=(), fixed=()):
        self.assertIs(hopeless(program, given, need, fixed), answer)
        self.assertIs(hopeless(program=program, given=list(given), need=need, fixed=list(fixed)), answer)

    def test_heads(self):
        program = lattice()
        self.check(program, ("low", A), False)
        self.check(program, ("low", A), True, fixed=["a"])
        self.check(program, ("low", TEXT), True)
        self.check(program, ("low", to(A, B)), True)
        self.check(program, ("low", listed(A)), False)
        self.check(program, ("low", used(F, A)), False)
        self.check(program, ("low", used(F, A)), False, fixed=["a"])
        self.check(program, ("low", used(F, A)), True, fixed=["f"])
        self.check(program, ("low", used(F, A, B)), False)
        self.check(program, ("low", used(F, A, B, C)), True)
        self.check(program, ("low", used(con("to", A), A)), True)
        self.assertIs(hopeless(program, [], ("low", WHOLE)), False)

    def test_cases(self):
        program = lattice()
        self.check(program, ("low", listed(TEXT)), True)
        self.check(program, ("low", listed(WHOLE)), False)
        self.check(program, ("low", listed(pair(A, listed(TEXT)))), True)
        self.check(program, ("low", listed(A)), True, fixed=["a"])
        self.check(program, ("low", pair(A, B)), True, fixed=["b"])
        self.check(program, ("mid", WHOLE), True)
        self.check(program, ("mid", listed(WHOLE)), False)
        self.check(program, ("mid", pair(WHOLE, A)), True)
        self.check(program, ("top", listed(pair(A, B))), True)

    def test_given(self):
        program = lattice()
        self.check(program, ("low", TEXT), False, given=[("low", TEXT)])
        self.check(program, ("low", TEXT), False, given=[("mid", TEXT)])
        self.check(program, ("low", TEXT), False, given=[("low", listed(TEXT))])
        self.check(program, ("low", TEXT), True, given=[("low", A)])
        self.check(program, ("low", listed(TEXT)), False, given=[("top", TEXT)])
        self.check(program, ("low", pair(TEXT, to(A, A))), True, given=[("top", TEXT)])
        self.check(program, ("low", A), False, given=[("low", A)])
        self.check(program, ("low", A), True, given=[("low", B)], fixed=["a"])
        self.check(program, ("low", to(B, C)), False, given=[("low", to(A, A))])
        self.check(program, ("low", to(B, C)), True, given=[("low", to(A, A))], fixed=["b"])
        self.check(program, ("low", to(A, TEXT)), True, given=[("low", to(A, A))])
        self.check(program, ("low", to(A, B)), False, given=[("mid", to(A, C))])
        self.check(program, ("low", to(C, C)), False, given=[("mid", listed(to(A, A)))])
        # The variables of the given context stand for themselves, also in the need.
        self.check(program, ("side", A), True, given=[("low", A)])
        self.check(program, ("side", B), False, given=[("low", A)])

    def test_two_kinds(self):
        program = Program(LIST, role("q", variables=TWO), case("c", "q", [listed(A), listed(A)]), case("d", "q", [B, WHOLE]))
        self.check(program, ("q", A, B), False)
        self.check(program, ("q", A, listed(A)), True)
        self.check(program, ("q", listed(A), A), False)
        self.check(program, ("q", listed(A), A), True, fixed=["a"])
        self.check(program, ("q", listed(A), listed(B)), False)
        self.check(program, ("q", listed(A), listed(B)), True, fixed=["a", "b"])
        self.check(program, ("q", TEXT, A), False)
        self.check(program, ("q", TEXT, A), True, fixed=["a"])
        self.check(program, ("q", TEXT, TRUTH), True)

    def test_names_of_heads_are_their_own(self):
        program = Program(LIST, PAIR, role("low"), case("c", "low", [pair(A, listed(A))]))
        self.check(program, ("low", pair(B, A)), False)
        self.check(program, ("low", pair(listed(A), A)), True)
        self.check(program, ("low", pair(B, A)), False, fixed=["b"])
        self.check(program, ("low", pair(B, A)), True, fixed=["a"])


class TestSteady(unittest.TestCase):
    """[46], on which Program stands."""

    def test_known(self):
        book = settling().book
        self.assertEqual(set(known_by(book, [A], [])), {"a"})
        self.assertEqual(set(known_by(book, [A], [("turns", A, B), ("turns", pair(A, B), C)])), {"a", "b", "c"})
        self.assertEqual(set(known_by(book, [A], [("turns", pair(B, C), D), ("turns", A, B)])), {"a", "b"})
        self.assertEqual(set(known_by(book, [B], [("turns", A, B)])), {"b"})
        self.assertEqual(set(known_by(book, [C], [("back", A, B)])), {"c"})
        self.assertEqual(set(known_by(book, [B], [("back", A, B), ("over", A, listed(C))])), {"a", "b", "c"})
        self.assertEqual(set(known_by(book, [WHOLE], [("turns", TEXT, A)])), {"a"})
        self.assertEqual(set(known_by(book, [A], [("loose", listed(A), B)])), {"a", "b"})
        self.assertEqual(set(known_by(book, [A], [("loose", A, B)])), {"a"})

    def test_clear_and_steady(self):
        book = settling().book
        self.assertIs(is_clear(book, [A], [("turns", A, B), ("plain", B)]), True)
        self.assertIs(is_clear(book, [A], [("plain", B)]), False)
        self.assertIs(is_steady(book, [A], [("turns", A, B), ("plain", B)]), True)
        self.assertIs(is_steady(book, [A], [("turns", A, B), ("turns", A, C)]), False)
        self.assertIs(is_steady(book, [A, B], [("turns", A, WHOLE), ("turns", A, TEXT)]), False)
        self.assertIs(is_steady(book, [A], []), True)


if __name__ == "__main__":
    unittest.main()
