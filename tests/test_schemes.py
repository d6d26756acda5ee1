"""[13]: schemes."""

import random
import unittest

from leastneeds.errors import InvalidCount, InvalidKind, InvalidNeed
from leastneeds.kinds import con, to, var
from leastneeds.schemes import Scheme

A, B, C, D, E, F = [var(name) for name in "abcdef"]
WHOLE = con("whole")


def same(*kinds):
    return ("same", *kinds)


def letters(count):
    words = []
    for k in range(count):
        words.append("x" + "abcdefghij"[k // 10] + "abcdefghij"[k % 10])
    return words


class TestScheme(unittest.TestCase):
    def test_properties(self):
        scheme = Scheme(to(B, A), same(A), ("turns", con("list", C), B), same(A))
        self.assertEqual(scheme.kind, to(B, A))
        self.assertEqual(scheme.needs, (same(A), ("turns", con("list", C), B), same(A)))
        self.assertEqual(scheme.variables, ("b", "a", "c"))
        self.assertEqual(scheme.size, 3 + 1 + 3 + 1)
        self.assertEqual(Scheme(WHOLE).needs, ())
        self.assertEqual(Scheme(kind=WHOLE).size, 1)

    def test_under(self):
        needs = [same(A)]
        scheme = Scheme.under(A, needs)
        needs.append(same(B))
        self.assertEqual(scheme.needs, (same(A),))
        self.assertEqual(scheme, Scheme(A, same(A)))
        self.assertEqual(Scheme.under(kind=A, needs=()).needs, ())
        self.assertIsInstance(scheme, Scheme)

    def test_first_wrong_argument(self):
        for value in (None, 1, "a", ["var", "a"], ("var", "as"), same(A), Scheme(A)):
            for make in (lambda: Scheme(value, 1), lambda: Scheme.under(value, [1]), lambda: Scheme.under(value, 1)):
                with self.assertRaises(InvalidKind) as caught:
                    make()
                self.assertIs(caught.exception.value, value)
        for value in (
            None, True, "same", ("same",), ("same", A, B, C), ("as", A), ["same", A], (A,), ("same", ["var", "a"]),
            ("same", A, None), (A, A), ("same", "a"), Scheme(A), (),
        ):
            with self.assertRaises(InvalidNeed) as caught:
                Scheme(A, same(A), value, None)
            self.assertIs(caught.exception.value, value)
            with self.assertRaises(InvalidNeed) as caught:
                Scheme.under(A, [same(A, B), value, ()])
            self.assertIs(caught.exception.value, value)

    def test_at(self):
        scheme = Scheme(to(A, B), same(B, C))
        self.assertEqual(scheme.at(WHOLE, A, B), (to(WHOLE, A), (same(A, B),)))
        self.assertEqual(scheme.at(B, A, C), (to(B, A), (same(A, C),)))
        self.assertEqual(Scheme(WHOLE).at(), (WHOLE, ()))
        for kinds in ((), (A,), (A, A), (A, A, A, A)):
            with self.assertRaises(InvalidCount) as caught:
                scheme.at(*kinds)
            self.assertEqual(caught.exception.number, len(kinds))

    def test_named(self):
        scheme = Scheme(to(F, B), same(C), same(F), same(C)).named()
        self.assertEqual(scheme.kind, to(A, B))
        self.assertEqual(scheme.needs, (same(C), same(A), same(C)))
        words = letters(60)
        many = Scheme(to(*[var(word) for word in words]), same(var("zz")))
        names = many.named().variables
        self.assertEqual(names[:27], tuple("abcdefghijklmnopqrstuvwxyz") + ("aa",))
        self.assertEqual(names[43:46], ("ar", "at", "au"))
        self.assertEqual(len(names), 61)
        self.assertEqual(many.named(), many)


class TestEquality(unittest.TestCase):
    def test_equal(self):
        for one, other in (
            (Scheme(A), Scheme(B)),
            (Scheme(to(A, B), same(A)), Scheme(to(B, A), same(B))),
            (Scheme(A, same(A), ("order", A)), Scheme(A, ("order", A), same(A))),
            (Scheme(A, same(A), same(A)), Scheme(B, same(B))),
            (Scheme(A, same(B), same(C)), Scheme(A, same(E), same(D))),
            (Scheme(A, same(B), same(C), ("order", B)), Scheme(A, same(B), same(C), ("order", C))),
            (Scheme(WHOLE, same(A, B), same(B, C), same(C, A)), Scheme(WHOLE, same(B, A), same(A, C), same(C, B))),
        ):
            self.assertTrue(one == other)
            self.assertTrue(other == one)
            self.assertFalse(one != other)

    def test_not_equal(self):
        for one, other in (
            (Scheme(A), Scheme(WHOLE)),
            (Scheme(WHOLE), Scheme(con("text"))),
            (Scheme(to(A, B, A)), Scheme(to(A, B, B))),
            (Scheme(to(A, B, A), same(B)), Scheme(to(A, A, B), same(B))),
            (Scheme(to(A, B)), Scheme(to(A, A))),
            (Scheme(A, same(A)), Scheme(A)),
            (Scheme(A, same(A)), Scheme(A, ("order", A))),
            (Scheme(A, same(A)), Scheme(A, same(B))),
            (Scheme(A, same(B), same(C)), Scheme(A, same(B))),
            (Scheme(to(A, B), same(A)), Scheme(to(A, B), same(B))),
            (Scheme(A, same(A, B)), Scheme(A, same(B, A))),
            (Scheme(WHOLE, same(A, B)), Scheme(WHOLE, same(A, A))),
            (Scheme(WHOLE, same(A, B), same(B, A)), Scheme(WHOLE, same(A, A), same(B, B))),
            (Scheme(A, same(con("list", B))), Scheme(A, same(B))),
            (Scheme(A, same(A)), Scheme(A, same(A, A))),
        ):
            self.assertFalse(one == other)
            self.assertFalse(other == one)
        for value in (None, A, (A, ()), "a", 1):
            self.assertFalse(Scheme(A) == value)

    def ring(self, words):
        return [same(var(words[k - 1]), var(words[k])) for k in range(len(words))]

    def test_rings_of_needs(self):
        # All variables look alike here, so only what hangs together tells the rings apart.
        words = letters(60)
        hexagons = [words[k : k + 6] for k in range(0, 60, 6)]
        one = [need for row in hexagons for need in self.ring(row)]
        other = [need for row in hexagons[1:] for need in self.ring(row)]
        other += self.ring(hexagons[0][:3]) + self.ring(hexagons[0][3:])
        self.assertFalse(Scheme(A, *one) == Scheme(A, *other))
        random.Random(1).shuffle(other)
        shuffled = list(one)
        random.Random(2).shuffle(shuffled)
        renamed = Scheme.under(A, shuffled).named()
        self.assertTrue(Scheme(A, *one) == renamed)

    def wheel(self, *steps):
        """Needs in which all of eight variables look alike; a role for each number of steps."""
        words = letters(8)
        return [(role, var(words[k]), var(words[(k + step) % 8])) for k in range(8) for role, step in steps]

    def test_wheels_of_needs(self):
        one = self.wheel(("same", 1), ("same", 2))
        other = self.wheel(("same", 1), ("same", 3))
        self.assertFalse(Scheme(A, *one) == Scheme(A, *other))
        for needs in (one, other):
            random.Random(3).shuffle(needs)
            self.assertTrue(Scheme(A, *needs) == Scheme.under(A, needs[::-1]).named())
        one = self.wheel(("same", 1), ("order", 2))
        other = self.wheel(("order", 1), ("same", 2))
        self.assertFalse(Scheme(A, *one) == Scheme(A, *other))
        self.assertTrue(Scheme(A, *one) == Scheme(B, *one[::-1]).named())

    def test_many_needs(self):
        words = letters(100)
        star = Scheme(A, *[same(A, var(word)) for word in words])
        self.assertTrue(star == Scheme(B, *[same(B, var(word)) for word in reversed(words)]))
        loose = Scheme(A, *[same(var(word)) for word in words])
        self.assertTrue(loose == Scheme(A, *[same(var(word)) for word in reversed(words)]))
        self.assertFalse(loose == Scheme(A, *[same(var(word)) for word in words[1:]], ("order", var("z"))))
        grid = [same(var(words[k]), var(words[m])) for k in range(10) for m in range(k)]
        self.assertTrue(Scheme(A, *grid) == Scheme(A, *reversed(grid)).named())


if __name__ == "__main__":
    unittest.main()
