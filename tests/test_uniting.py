"""[12]: making kinds the same."""

import itertools
import unittest

from leastneeds.kinds import con, put, to, var, variables_of
from leastneeds.uniting import fits, unite

A, B, C, D, F = [var(name) for name in "abcdf"]
WHOLE, TEXT = con("whole"), con("text")


def listed(kind):
    return con("list", kind)


class TestUnite(unittest.TestCase):
    def check(self, pairs):
        """The answer makes the pairs the same and has the told form."""
        by = unite(pairs)
        self.assertIsInstance(by, dict)
        kinds = [kind for pair in pairs for kind in pair]
        for one, other in pairs:
            self.assertEqual(put(one, by), put(other, by))
        for name in by:
            self.assertIn(name, variables_of(*kinds))
            for kind in by.values():
                self.assertNotIn(name, variables_of(kind))
        return by

    def test_none(self):
        for pairs in (
            [(WHOLE, TEXT)],
            [(A, listed(A))],
            [(listed(A), A)],
            [(A, listed(B)), (B, listed(A))],
            [(A, B), (B, listed(A))],
            [(A, B), (C, listed(A)), (B, C)],
            [(A, WHOLE), (A, TEXT)],
            [(listed(A), WHOLE)],
            [(listed(A), con("pair", A, B))],
            [(to(A, A), to(WHOLE, TEXT))],
            [(("apply", F, F), con("list", WHOLE))],
            [(F, ("apply", F, A))],
        ):
            self.assertIsNone(unite(pairs), pairs)
            self.assertIsNone(unite([(other, one) for one, other in pairs]), pairs)

    def test_plain(self):
        self.assertEqual(unite([]), {})
        self.assertEqual(unite(()), {})
        self.assertEqual(unite([(A, A)]), {})
        self.assertEqual(unite([(WHOLE, WHOLE), (listed(A), listed(A))]), {})
        self.assertEqual(unite(pairs=((A, WHOLE),)), {"a": WHOLE})
        self.assertEqual(unite([(listed(A), listed(WHOLE)), (listed(A), listed(WHOLE))]), {"a": WHOLE})
        self.assertEqual(unite([(("apply", F, A), listed(WHOLE))]), {"f": con("list"), "a": WHOLE})
        self.assertEqual(unite([(("apply", F, A), to(B, WHOLE))]), {"f": con("to", B), "a": WHOLE})

    def test_constructors_and_variables_of_one_name(self):
        self.assertIsNone(unite([(A, WHOLE), (con("a"), WHOLE)]))
        self.assertEqual(unite([(A, WHOLE), (B, con("a"))]), {"a": WHOLE, "b": con("a")})
        self.assertEqual(unite([(B, listed(A)), (A, con("b"))]), {"a": con("b"), "b": listed(con("b"))})

    def test_chains(self):
        by = self.check([(A, listed(B)), (B, listed(C)), (C, WHOLE)])
        self.assertEqual(by["a"], listed(listed(WHOLE)))
        by = self.check([(A, B), (B, C), (C, A)])
        self.assertEqual(len(by), 2)
        by = self.check([(to(A, B), to(B, listed(C)))])
        self.assertEqual(set(by), {"a", "b"})
        self.check([(con("pair", A, B), con("pair", B, A)), (A, D)])

    def test_most_general(self):
        # Each way to make the pairs the same with few kinds is the answer with kinds put in.
        pairs = [(con("pair", A, listed(B)), con("pair", listed(C), A))]
        by = self.check(pairs)
        ground = [WHOLE, listed(WHOLE), listed(listed(WHOLE)), TEXT]
        count = 0
        for a, b, c in itertools.product(ground, repeat=3):
            way = {"a": a, "b": b, "c": c}
            if all(put(one, way) == put(other, way) for one, other in pairs):
                count += 1
                self.assertEqual({name: put(put(var(name), by), way) for name in way}, way)
        self.assertEqual(count, 2)

    def test_arguments_stay(self):
        pairs = [(A, B), (B, WHOLE)]
        unite(pairs)
        self.assertEqual(pairs, [(A, B), (B, WHOLE)])
        self.assertEqual(unite(pairs), unite(tuple(pairs)))


class TestFits(unittest.TestCase):
    def test_fits(self):
        self.assertEqual(fits([], []), {})
        self.assertEqual(fits((), ()), {})
        self.assertEqual(fits([A], [B]), {"a": B})
        self.assertEqual(fits([A], [A]), {"a": A})
        self.assertEqual(fits([listed(A)], [listed(listed(A))]), {"a": listed(A)})
        self.assertEqual(fits((con("pair", A, B),), [con("pair", B, A)]), {"a": B, "b": A})
        self.assertEqual(fits([("apply", F, A)], [to(B, C)]), {"f": con("to", B), "a": C})
        self.assertEqual(fits([A, WHOLE], [WHOLE, WHOLE]), {"a": WHOLE})
        self.assertEqual(fits(patterns=[A, A], kinds=[B, B]), {"a": B})

    def test_none(self):
        for patterns, kinds in (
            ([A, A], [B, C]),
            ([A, A], [B, A]),
            ([WHOLE], [TEXT]),
            ([WHOLE], [A]),
            ([listed(A)], [B]),
            ([listed(A)], [WHOLE]),
            ([WHOLE], [listed(A)]),
            ([con("pair", A, A)], [con("pair", WHOLE, TEXT)]),
            ([listed(A)], [("apply", F, A)]),
        ):
            self.assertIsNone(fits(patterns, kinds), patterns)


if __name__ == "__main__":
    unittest.main()
