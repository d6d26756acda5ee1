"""How much is done to make a program: counted in calls, because times differ from machine to machine."""

import itertools
import sys
import unittest

from leastneeds.declarations import Data, Definition, Derive
from leastneeds.errors import BadArms, Repeated, Underivable, Unknown
from leastneeds.kinds import to
from leastneeds.program import Program
from leastneeds.search import Context

from samples import A, LIST, PAIR, WHOLE, listed

DERIVES = (Derive("dsame", "same", "list"), Derive("dorder", "order", "list"), Derive("dwords", "words", "list"))


def calls_of(action):
    count = 0

    def note(frame, event, what):
        nonlocal count
        if event in ("call", "c_call"):
            count += 1

    before = sys.getprofile()
    sys.setprofile(note)
    try:
        action()
    finally:
        sys.setprofile(before)
    return count


class TestEffort(unittest.TestCase):
    def within_calls(self, most, action):
        first = calls_of(action)
        self.assertLessEqual(first, most)
        # Nothing is kept of a program that was made before.
        self.assertEqual(calls_of(action), first)

    def test_programs(self):
        self.within_calls(1000, lambda: Program())
        self.within_calls(1200, lambda: Program(LIST))
        self.within_calls(8000, lambda: Program(LIST, *DERIVES))

    def test_other_orders(self):
        for row in itertools.permutations((LIST,) + DERIVES):
            self.within_calls(8000, lambda: Program(*row))

    def test_wrong_ones(self):
        for error, bad in (
            (Repeated, Data("list", (), (("none", ()),))),
            (Unknown, Definition("it", ("name", "zzz"))),
            (BadArms, Definition("it", ("match", ("whole", 1), (("nil", (), ("whole", 1)),)))),
            (Underivable, Derive("dpair", "same", "act")),
        ):
            rows = (LIST, Data("act", (), (("acts", (to(WHOLE, WHOLE),)),)), bad) + DERIVES

            def made():
                with self.assertRaises(error):
                    Program(*rows)

            self.within_calls(8000, made)

    def test_contexts(self):
        def asked():
            program = Program(LIST, PAIR, *DERIVES)
            context = Context(program, ("order", A), ("words", listed(A)))
            self.assertTrue(context.meets(("same", listed(A))))
            self.assertEqual(len(context.all_needs()), 4)
            context.paper(("same", listed(A)))
            context.lacking(("same", to(A, A)))

        self.within_calls(10000, asked)


if __name__ == "__main__":
    unittest.main()
