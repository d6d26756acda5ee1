"""Derived cases: points 80 to 83."""

import unittest

from leastneeds.contexts import entails
from leastneeds.declarations import Case, Data, Derive
from leastneeds.derived import derived, wanted
from leastneeds.errors import Underivable, UnknownName
from leastneeds.kinds import con, part_text, to, var
from leastneeds.program import Program
from leastneeds.reader import read_kind, read_term

from samples import A, B, TEXT, WHOLE, listed, pair


def program(*lines):
    return Program.read("\n".join(lines))


def need(text):
    role, kind = text.split(" ", 1)
    return (role, read_kind(kind))


def needs(*texts):
    return tuple(need(text) for text in texts)


LIST = "data list 'a = none | more 'a ( list 'a )"
PAIR = "data pair 'a 'b = two 'a 'b"
NEST = "data nest 'a = flat | deep 'a ( nest ( pair 'a 'a ) )"
MARK = "data mark 'a = tag whole"


def derives(data):
    return [f"derive {role[0]}{data} : {role} {data}" for role in ("same", "order", "words")]


class TestWanted(unittest.TestCase):
    def test_fields_in_order(self):
        found = program(LIST, PAIR, *derives("list"), *derives("pair"))
        self.assertEqual(wanted(found, "slist"), needs("same 'a", "same list 'a"))
        self.assertEqual(wanted(found, "olist"), needs("order 'a", "order list 'a", "same list 'a"))
        self.assertEqual(wanted(found, "wlist"), needs("words 'a", "words list 'a"))
        self.assertEqual(wanted(found, "opair"), needs("order 'a", "order 'b", "same pair 'a 'b"))

    def test_all_fields(self):
        found = program(
            PAIR,
            "data many 'a 'b = one | deux 'b whole | three 'a ( pair 'b 'a ) 'b 'a",
            *derives("many"),
            *derives("pair"),
        )
        expected = needs("same 'b", "same whole", "same 'a", "same pair 'b 'a", "same 'b", "same 'a")
        self.assertEqual(wanted(found, "smany"), expected)

    def test_without_fields(self):
        found = program("data unit = unit", *derives("unit"))
        self.assertEqual(wanted(found, "sunit"), ())
        self.assertEqual(wanted(found, "ounit"), needs("same unit"))
        self.assertEqual(wanted(found, "wunit"), ())

    def test_no_name_of_a_derive(self):
        found = program(LIST, PAIR, *derives("list"), "define slow = 1", "case sp : same ( pair 'a 'b )", "as alike = given x . given y . no")
        deep = ()
        for _ in range(240):
            deep = (deep,)
        for value in ("sp", "swhole", "struth", "same", "list", "slow", "", None, 0, True, ("slist",), ["slist"], {}, deep, found):
            for action in (wanted, derived):
                with self.assertRaises(UnknownName) as caught:
                    action(found, value)
                self.assertIs(caught.exception.value, value)


class TestNeeds(unittest.TestCase):
    def needs_of(self, found, name):
        return {" ".join([row[0]] + [part_text(kind) for kind in row[1:]]) for row in derived(found, name).needs}

    def test_examples(self):
        found = program(LIST, PAIR, NEST, MARK, *derives("list"), *derives("pair"), *derives("nest"), *derives("mark"))
        self.assertEqual(derived(found, "slist").needs, needs("same 'a"))
        self.assertEqual(derived(found, "snest").needs, needs("same 'a"))
        self.assertEqual(derived(found, "smark").needs, ())
        self.assertEqual(derived(found, "olist").needs, needs("order 'a"))
        self.assertEqual(self.needs_of(found, "opair"), {"order 'a", "order 'b"})
        self.assertEqual(derived(found, "onest").needs, needs("order 'a"))
        self.assertEqual(derived(found, "omark").needs, ())
        self.assertEqual(derived(found, "wnest").needs, needs("words 'a"))

    def test_hopeless(self):
        for kind, bad in (("'a -> 'a", "same 'a -> 'a"), ("list ( whole -> 'a )", "same list ( whole -> 'a )")):
            with self.assertRaises(Underivable) as caught:
                program(LIST, f"data act 'a = act ( {kind} )", "derive slist : same list", "derive sact : same act")
            self.assertEqual((caught.exception.word, caught.exception.need), ("sact", need(bad)))
        # Without a case at pairs a need at pairs is hopeless.
        with self.assertRaises(Underivable) as caught:
            program(PAIR, NEST, "derive snest : same nest")
        self.assertEqual((caught.exception.word, caught.exception.need), ("snest", need("same nest ( pair 'a 'a )")))

    def test_order_without_same(self):
        with self.assertRaises(Underivable) as caught:
            program(LIST, "derive olist : order list")
        self.assertEqual((caught.exception.word, caught.exception.need), ("olist", need("same list 'a")))

    def test_rings_of_data(self):
        found = program(
            "data tree 'a = leaf | node 'a ( wood 'a )",
            "data wood 'a = bare | grown ( tree 'a ) ( wood 'a )",
            *derives("tree"),
            *derives("wood"),
        )
        for name in ("stree", "swood"):
            self.assertEqual(derived(found, name).needs, needs("same 'a"))
        self.assertEqual(derived(found, "otree").needs, needs("order 'a"))

    def test_several_variables(self):
        found = program(
            "data swap 'a 'b = stop | go 'a ( swap 'b 'a )",
            "data half 'a 'b = half 'b",
            *derives("swap"),
            *derives("half"),
        )
        self.assertEqual(self.needs_of(found, "sswap"), {"same 'a", "same 'b"})
        self.assertEqual(self.needs_of(found, "shalf"), {"same 'b"})

    def test_declared_cases_count(self):
        found = program(
            "data set 'a = set 'a",
            "data held 'a = held ( set 'a )",
            "case sset : same ( set 'a ) if order 'a",
            "as alike = given x . given y . no",
            "derive sheld : same held",
        )
        self.assertEqual(derived(found, "sheld").needs, needs("order 'a"))

    def test_needs_that_do_not_become_smaller(self):
        lines = [
            "data set 'a = set 'a",
            "role big 'a",
            "member bigm : 'a -> whole",
            "case sset : same ( set 'a ) if big 'a",
            "as alike = given x . given y . no",
            "data held = held ( set whole )",
            "derive sheld : same held",
        ]
        with self.assertRaises(Underivable) as caught:
            program(*lines)
        self.assertEqual((caught.exception.word, caught.exception.need), ("sheld", need("same set whole")))

    def test_the_first_derive_of_a_round(self):
        acts = ["data acta = acta ( whole -> whole )", "data actb = actb ( whole -> whole )"]
        with self.assertRaises(Underivable) as caught:
            program(*acts, "derive sb : same actb", "derive sa : same acta")
        self.assertEqual(caught.exception.word, "sb")
        with self.assertRaises(Underivable) as caught:
            program(*acts, "derive sa : same acta", "derive sb : same actb")
        self.assertEqual(caught.exception.word, "sa")
        # In the first round deep has no needs yet, so only act is hopeless there.
        lines = ["data deep = deep act", "data act = act ( whole -> whole )", "derive sdeep : same deep", "derive sact : same act"]
        with self.assertRaises(Underivable) as caught:
            program(*lines)
        self.assertEqual(caught.exception.word, "sact")

    def test_later_rounds(self):
        # The need of set comes to chain by several rounds.
        lines = ["data last 'a = last 'a", "data link 'a = link ( last 'a )", "data chain 'a = chain ( link 'a ) whole"]
        found = program(*lines, "derive sc : same chain", "derive sb : same link", "derive sa : same last")
        self.assertEqual(derived(found, "sc").needs, needs("same 'a"))
        with self.assertRaises(Underivable) as caught:
            program(lines[0], lines[1], "data top = top ( link ( whole -> whole ) )",
                    "derive st : same top", "derive sb : same link", "derive sa : same last")
        self.assertEqual((caught.exception.word, caught.exception.need), ("st", need("same link ( whole -> whole )")))

    def test_met_if_the_wanted_ones_are(self):
        found = program(LIST, PAIR, NEST, MARK, *derives("list"), *derives("pair"), *derives("nest"), *derives("mark"))
        kinds = [WHOLE, TEXT, con("truth"), to(WHOLE, WHOLE), listed(WHOLE), con("mark", to(WHOLE, TEXT)), pair(WHOLE, to(TEXT, TEXT))]
        for data in ("list", "nest", "mark"):
            for role in ("same", "order", "words"):
                case = derived(found, role[0] + data)
                for kind in kinds:
                    put_in = [(row[0], replaced(row[1], kind)) for row in wanted(found, case.name)]
                    goals = [(row[0], replaced(row[1], kind)) for row in case.needs]
                    self.assertEqual(entails(found, (), goals), entails(found, (), put_in), (case.name, kind))


def replaced(kind, by):
    if kind[0] == "apply":
        return ("apply", replaced(kind[1], by), replaced(kind[2], by))
    return by if kind == A else kind


class TestTerms(unittest.TestCase):
    def term(self, role, lines):
        found = program(*lines, *derives("it"))
        case = derived(found, role[0] + "it")
        self.assertIsInstance(case, Case)
        self.assertEqual((case.name, case.role), (role[0] + "it", role))
        self.assertEqual(len(case.members), 1)
        return case.members[0]

    def tells(self, role, lines, text):
        member = {"same": "alike", "order": "atmost", "words": "shown"}[role]
        self.assertEqual(self.term(role, lines), (member, read_term(text)))

    def test_head(self):
        found = program("data it 'b 'a = it 'a", *derives("it"))
        self.assertEqual(derived(found, "sit").kinds, (con("it", B, A),))
        self.assertEqual(found.case_named("sit"), derived(found, "sit"))

    def test_without_fields(self):
        lines = ["data it = red | blue"]
        self.tells(
            "same",
            lines,
            "given one . given other . match one | red = match other | red = yes | blue = no end "
            "| blue = match other | red = no | blue = yes end end",
        )
        self.tells(
            "order",
            lines,
            "given one . given other . match one | red = match other | red = yes | blue = yes end "
            "| blue = match other | red = no | blue = yes end end",
        )
        self.tells("words", lines, 'given one . match one | red = "red" | blue = "blue" end')

    def test_one_field(self):
        lines = ["data it 'a = it 'a"]
        self.tells("same", lines, "given one . given other . match one | it aa = match other | it ba = alike aa ba end end")
        self.tells("order", lines, "given one . given other . match one | it aa = match other | it ba = atmost aa ba end end")
        self.tells("words", lines, 'given one . match one | it aa = join ( join "it (" ( shown aa ) ) ")" end')

    def test_list(self):
        lines = ["data it 'a = none | more 'a ( it 'a )"]
        self.tells(
            "same",
            lines,
            "given one . given other . match one "
            "| none = match other | none = yes | more ba bb = no end "
            "| more aa ab = match other | none = no "
            "| more ba bb = match alike aa ba | no = no | yes = alike ab bb end end end",
        )
        self.tells(
            "order",
            lines,
            "given one . given other . match one "
            "| none = match other | none = yes | more ba bb = yes end "
            "| more aa ab = match other | none = no "
            "| more ba bb = match alike aa ba | no = atmost aa ba | yes = atmost ab bb end end end",
        )
        self.tells(
            "words",
            lines,
            'given one . match one | none = "none" | more aa ab = '
            'join ( join ( join ( join "more (" ( shown aa ) ) ") (" ) ( shown ab ) ) ")" end',
        )

    def test_four_fields(self):
        lines = ["data it 'a = it 'a whole text 'a"]
        self.tells(
            "same",
            lines,
            "given one . given other . match one | it aa ab ac ad = match other | it ba bb bc bd = "
            "match alike aa ba | no = no | yes = match alike ab bb | no = no | yes = "
            "match alike ac bc | no = no | yes = alike ad bd end end end end end",
        )
        self.tells(
            "order",
            lines,
            "given one . given other . match one | it aa ab ac ad = match other | it ba bb bc bd = "
            "match alike aa ba | no = atmost aa ba | yes = match alike ab bb | no = atmost ab bb | yes = "
            "match alike ac bc | no = atmost ac bc | yes = atmost ad bd end end end end end",
        )
        self.tells(
            "words",
            lines,
            'given one . match one | it aa ab ac ad = join ( join ( join ( join ( join ( join ( join ( join "it (" '
            '( shown aa ) ) ") (" ) ( shown ab ) ) ") (" ) ( shown ac ) ) ") (" ) ( shown ad ) ) ")" end',
        )

    def test_counted_like_others(self):
        found = program(LIST, *derives("list"), "define f = given x . alike x ( more 1 none )")
        self.assertEqual(found.findings.all_faults(found.declarations), ())
        self.assertEqual(found.cases_of("same"), ("slist", "stext", "struth", "swhole"))


class TestDeclared(unittest.TestCase):
    def test_by_objects(self):
        items = con("list", var("a"))
        found = Program(
            Data("list", ("a",), (("none", ()), ("more", (var("a"), items)))), Derive("eqlist", "same", "list")
        )
        self.assertEqual(derived(found, "eqlist").needs, (("same", var("a")),))


if __name__ == "__main__":
    unittest.main()
