"""Records: point 72."""

import unittest

from leastneeds.errors import InvalidNeed, Unmet
from leastneeds.kinds import con, var
from leastneeds.program import Program
from leastneeds.records import above, is_record, record

from samples import A, TEXT, TRUTH, WHOLE, lattice, listed, pair, used

PROGRAM = Program.read(
    "data list 'a = nil | cons 'a ( list 'a )\n"
    "data pair 'a 'b = two 'a 'b\n"
    "derive slist : same list\n"
    "derive spair : same pair\n"
    "derive opair : order pair\n"
    "case olist : order ( list 'a ) if same 'a\n"
    "as atmost = given x . given y . no\n"
    "role turns 'a 'b\n"
    "member turn : 'a -> 'b\n"
    "case turnw : turns whole text\n"
    "as turn = spell\n"
    "case turnl : turns ( list 'a ) ( list 'b ) if turns 'a 'b , same 'a\n"
    "as turn = given x . nil\n"
    "role maps 'f\n"
    "member mapped : 'f whole -> 'f text\n"
    "case mapl : maps list\n"
    "as mapped = given x . nil"
)
SAME = ("swhole", ())


class TestRecords(unittest.TestCase):
    def test_with_parts(self):
        for need, told in (
            (("same", WHOLE), SAME),
            (("order", TRUTH), ("otruth", ())),
            (("maps", con("list")), ("mapl", ())),
            (("same", listed(WHOLE)), ("slist", (SAME,))),
            (("order", listed(WHOLE)), ("olist", (SAME,))),
            (("same", pair(TEXT, listed(WHOLE))), ("spair", (("stext", ()), ("slist", (SAME,))))),
            (("turns", WHOLE, TEXT), ("turnw", ())),
            (("turns", listed(WHOLE), listed(TEXT)), ("turnl", (("turnw", ()), SAME))),
        ):
            self.assertEqual(record(PROGRAM, need), told)
            self.assertIs(is_record(PROGRAM, need, told), True)

    def test_invalid_ahead_of_unmet(self):
        for value in (
            ("same", A),
            ("same", listed(A)),
            ("turns", WHOLE, A),
            ("zzz", WHOLE),
            ("same", con("zzz")),
            ("same", con("list")),
            ("same", WHOLE, WHOLE),
            ("turns", WHOLE),
            ("same",),
            ["same", WHOLE],
            None,
            True,
            7,
            "same",
            (),
            PROGRAM,
        ):
            with self.assertRaises(InvalidNeed) as caught:
                record(PROGRAM, value)
            self.assertIs(caught.exception.value, value)

    def test_unmet(self):
        function = used(con("to"), WHOLE, WHOLE)
        for need in (("same", function), ("same", listed(listed(function))), ("turns", TEXT, WHOLE), ("words", listed(WHOLE))):
            with self.assertRaises(Unmet) as caught:
                record(PROGRAM, need)
            self.assertEqual(caught.exception.need, need)
            self.assertFalse(is_record(PROGRAM, need, ("slist", (SAME,))))

    def test_above(self):
        need = ("order", pair(WHOLE, listed(TEXT)))
        found = record(PROGRAM, need)
        self.assertEqual(found[0], "opair")
        # The case of the list tells its need above by the needs of its own.
        self.assertEqual(above(PROGRAM, found, 0), record(PROGRAM, ("same", pair(WHOLE, listed(TEXT)))))
        self.assertEqual(above(PROGRAM, ("olist", (SAME,)), 0), ("slist", (SAME,)))
        self.assertEqual(above(PROGRAM, ("owhole", ()), 0), SAME)
        nested = ("order", pair(pair(WHOLE, TEXT), pair(TRUTH, pair(TEXT, TEXT))))
        self.assertEqual(above(PROGRAM, record(PROGRAM, nested), 0), record(PROGRAM, ("same", nested[1])))

    def test_above_by_each_step(self):
        program = lattice()
        for kind in (listed(WHOLE), listed(listed(WHOLE))):
            with self.assertRaises(Unmet):
                record(program, ("top", kind))
        more = Program.read(
            "data list 'a = nil | cons 'a ( list 'a )\n"
            "role low 'a\nmember lowm : 'a\nrole mid 'a above low 'a\nmember midm : 'a\n"
            "role top 'a above mid 'a , low 'a\nmember topm : 'a\n"
            "case loww : low whole\nas lowm = 1\ncase midw : mid whole\nas midm = 2\ncase topw : top whole\nas topm = 3\n"
            "case lowl : low ( list 'a ) if low 'a\nas lowm = nil\n"
            "case midl : mid ( list 'a ) if mid 'a\nas midm = nil\n"
            "case topl : top ( list 'a ) if top 'a\nas topm = nil"
        )
        found = record(more, ("top", listed(listed(WHOLE))))
        self.assertEqual(found, ("topl", (("topl", (("topw", ()),)),)))
        self.assertEqual(above(more, found, 0), ("midl", (("midl", (("midw", ()),)),)))
        self.assertEqual(above(more, found, 1), ("lowl", (("lowl", (("loww", ()),)),)))
        self.assertEqual(above(more, above(more, found, 0), 0), above(more, found, 1))

    def test_needs_of_the_case_above(self):
        # The need above is there by what the one need of the case has.
        program = Program.read(
            "data list 'a = nil | cons 'a ( list 'a )\nderive slist : same list\n"
            "case olist : order ( list 'a ) if order 'a\nas atmost = given x . given y . yes"
        )
        self.assertEqual(above(program, record(program, ("order", listed(WHOLE))), 0), ("slist", (SAME,)))
        kind = WHOLE
        for _ in range(39):
            kind = listed(kind)
        self.assertEqual(above(program, record(program, ("order", kind)), 0), record(program, ("same", kind)))

    def test_changed_records(self):
        need = ("same", pair(TEXT, listed(WHOLE)))
        right = record(PROGRAM, need)
        for value in (
            ("spair", (("stext", ()), ("slist", ()))),
            ("spair", (("stext", ()),)),
            ("spair", (("stext", ()), ("slist", (SAME,)), SAME)),
            ("spair", (("slist", (SAME,)), ("stext", ()))),
            ("spair", [("stext", ()), ("slist", (SAME,))]),
            ("opair", right[1]),
            ("spair", (("stext", ()), ("slist", (("stext", ()),)))),
            ("spair",),
            right + ((),),
            list(right),
            right[1],
            None,
            True,
            "spair",
            {},
            PROGRAM,
        ):
            self.assertIs(is_record(PROGRAM, need, value), False, value)

    def test_asked_again(self):
        need = ("same", listed(WHOLE))
        self.assertEqual(record(PROGRAM, need), record(PROGRAM, need))
        self.assertEqual(record(program=PROGRAM, need=need), ("slist", (SAME,)))
        self.assertEqual(above(program=PROGRAM, record=("owhole", ()), k=0), SAME)
        self.assertTrue(is_record(program=PROGRAM, need=need, value=("slist", (SAME,))))


if __name__ == "__main__":
    unittest.main()
