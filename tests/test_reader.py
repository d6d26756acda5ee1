"""Reading texts: points 90 to 95."""

import itertools
import unittest

from leastneeds.declarations import Case, Data, Definition, Derive, Role
from leastneeds.errors import InvalidForm, InvalidPicks, InvalidText, Misshapen, Unknown
from leastneeds.kinds import con, text_of, to, var
from leastneeds.program import Program
from leastneeds.reader import read_kind, read_scheme, read_term
from leastneeds.schemes import Scheme
from leastneeds.terms import is_term

from samples import A, B, C, F, TEXT, TRUTH, WHOLE, listed, pair, used

NO_STRINGS = (None, True, 0, 1, b"whole", ("whole",), ["whole"], {}, var("a"), Program())


def name(word):
    return ("name", word)


def use(function, *arguments):
    for argument in arguments:
        function = ("use", function, argument)
    return function


class ReadCase(unittest.TestCase):
    def wrong(self, read, text, line, piece):
        with self.assertRaises(InvalidText, msg=repr(text)) as caught:
            read(text)
        self.assertEqual((caught.exception.line, caught.exception.piece), (line, piece), text)


class TestKinds(ReadCase):
    def test_forms(self):
        for text, kind in (
            ("'a", A),
            ("whole", WHOLE),
            ("to", con("to")),
            ("to 'a", con("to", A)),
            ("'a -> 'b", to(A, B)),
            ("'a -> 'b -> 'c", to(A, B, C)),
            ("( 'a -> 'b ) -> 'c", to(to(A, B), C)),
            ("( ( 'a -> 'b ) -> 'c ) -> 'a", to(to(to(A, B), C), A)),
            ("( 'a -> 'b ) 'c", con("to", A, B, C)),
            ("( 'a -> 'b ) 'c 'a -> 'b", to(con("to", A, B, C, A), B)),
            ("'f 'a", used(F, A)),
            ("'f 'a 'b -> text", to(used(F, A, B), TEXT)),
            ("list ( list 'a )", listed(listed(A))),
            ("list ( 'a -> 'b )", listed(to(A, B))),
            ("list ( to 'a )", listed(con("to", A))),
            ("'a -> list ( pair 'a whole )", to(A, listed(pair(A, WHOLE)))),
            ("pair ( 'f 'a ) ( ( 'a -> 'b ) -> 'c )", pair(used(F, A), to(to(A, B), C))),
            ("nowhere 'zzzzzzzz", con("nowhere", var("zzzzzzzz"))),
        ):
            self.assertEqual(read_kind(text), kind)
            self.assertEqual(text_of(kind), text)

    def test_parentheses_that_are_not_written(self):
        for text, piece in (
            ("( 'a )", 2),
            ("( whole )", 2),
            ("( list 'a )", 3),
            ("( list 'a ) -> 'b", 3),
            ("( 'a -> 'b )", 5),
            ("list ( 'a )", 3),
            ("list ( whole )", 3),
            ("'a -> ( 'b -> 'c )", 7),
            ("'a -> ( list 'b )", 5),
            ("( ( 'a -> 'b ) )", 6),
            ("to 'a 'b", 2),
            ("to 'a ( 'b", 2),
            ("list ( to 'a 'b )", 4),
            ("( to 'a ) 'b", 3),
        ):
            self.wrong(read_kind, text, 0, piece)

    def test_parentheses_that_are_missing(self):
        for text, piece in (
            ("list list 'a )", 3),
            ("( 'a -> 'b -> 'c", 6),
            ("list ( list 'a", 4),
            ("( 'a -> 'b ) -> 'c )", 7),
            ("list ( 'a -> 'b", 5),
        ):
            self.wrong(read_kind, text, 0, piece)

    def test_too_early_and_wrong_pieces(self):
        for text, piece in (
            ("", 0),
            ("->", 0),
            (")", 0),
            ("'a ->", 2),
            ("'a -> ->", 2),
            ("(", 1),
            ("( )", 1),
            ("( (", 2),
            ("list ( )", 2),
            ("1", 0),
            ('"a"', 0),
            ("list 1", 1),
            ("_", 0),
            ("'a 'b = 'c", 2),
            ("'a if same 'a", 1),
            ("'", 0),
            ("' a", 0),
            ("'A", 0),
            ("''a", 0),
            ("'toolongex", 0),
            ("toolongex", 0),
            ("Whole", 0),
            ("list-a", 0),
            ("'a->'b", 0),
            ("list\t'a", 0),
            ("list\r", 0),
        ):
            self.wrong(read_kind, text, 0, piece)

    def test_words_that_are_no_names(self):
        for word in "data role case define derive picks above settles member as if given let and in match end".split():
            self.wrong(read_kind, word, 0, 0)
            self.wrong(read_kind, "'" + word, 0, 0)
            self.wrong(read_kind, "list " + word, 0, 1)
            self.wrong(read_kind, "list ( 'a -> " + word, 0, 4)
            self.wrong(read_term, "given x . f '" + word, 0, 4)
            self.wrong(read_term, "given " + word, 0, 1)
            self.wrong(read_term, "let " + word, 0, 1)
            self.wrong(read_term, "match x | " + word, 0, 3)
            self.wrong(Program.read, "define " + word, 0, 1)
            self.wrong(Program.read, "data list '" + word, 0, 2)

    def test_spaces(self):
        for text, piece in ((" 'a", 0), ("'a ", 1), ("'a  -> 'b", 1), ("'a -> 'b ", 3), (" ", 0), ("list ( 'a  ->", 3)):
            self.wrong(read_kind, text, 0, piece)

    def test_lines(self):
        self.wrong(read_kind, "'a\n", 1, 0)
        self.wrong(read_kind, "'a\n'b", 1, 0)
        self.wrong(read_kind, "'a ->\n'b", 0, 2)
        self.wrong(read_kind, "\n'a", 0, 0)
        for read in (read_kind, read_scheme, read_term):
            self.wrong(read, "x\n\n", 1, 0)
            self.wrong(read, "", 0, 0)
            for value in NO_STRINGS:
                self.wrong(read, value, 0, 0)

    def test_ten_parentheses(self):
        for many in (10, 11):
            deep = "list ( " * many + "list 'a" + " )" * many
            left = "( " * many + "'a -> 'b" + " ) -> 'c" * many
            if many == 10:
                self.assertEqual(text_of(read_kind(deep)), deep)
                self.assertEqual(text_of(read_kind(left)), left)
            else:
                self.wrong(read_kind, deep, 0, 21)
                self.wrong(read_kind, left, 0, 10)
        # Everywhere from none on.
        for many in (10, 11):
            deep = "list ( " * many + "list 'a" + " )" * many
            part = "( " + "list ( " * (many - 1) + "list 'a" + " )" * many
            for read, text, piece in (
                (read_scheme, f"{deep} if same 'a", 21),
                (read_scheme, f"'a if same 'a , turns 'a {part}", 7 + 20),
                (read_scheme, f"'a if turns {part} 'a", 3 + 20),
                (Program.read, f"picks {deep} , whole )", 1 + 21),
                (Program.read, f"picks whole , {deep} )", 3 + 21),
                (Program.read, f"data it 'a = it 'a {part} | )", 6 + 20),
                (Program.read, f"role r 'a above same {part} )", 5 + 20),
                (Program.read, f"case c : same {part} if )", 4 + 20),
                (Program.read, f"case c : same 'a if same {part} )", 7 + 20),
                (Program.read, f"define f : {deep} = )", 3 + 21),
                (Program.read, f"define f : 'a -> {deep} = )", 5 + 21),
            ):
                if many == 11:
                    self.wrong(read, text, 0, piece)
                elif text.endswith(")") and read == Program.read:
                    self.wrong(read, text, 0, text.count(" "))
                else:
                    read(text)
        # Only those that are open at once count.
        wide = "pair ( list 'a ) ( pair ( list 'a ) ( list 'a ) )"
        self.assertEqual(text_of(read_kind(wide)), wide)
        row = " -> ".join(["( 'a -> 'b )"] * 12 + ["'c"])
        self.assertEqual(text_of(read_kind(row)), row)
        # That around a part of a need or a field counts, too.
        inner = "list ( " * 9 + "list 'a" + " )" * 9
        self.assertEqual(read_scheme(f"'a if same ( {inner} )").needs, (("same", read_kind(inner)),))
        more = "list ( " * 10 + "list 'a" + " )" * 10
        self.wrong(read_scheme, f"'a if same ( {more} )", 0, 3 + 2 * 10)
        self.wrong(Program.read, f"data it 'a = it ( {more} )", 0, 5 + 2 * 10)

    def test_four_hundred_pieces(self):
        text = " ".join(["'f"] + ["'a"] * 399)
        self.assertEqual(text_of(read_kind(text)), text)
        self.wrong(read_kind, text + " 'a", 0, 400)
        self.wrong(read_kind, text + " )", 0, 400)
        self.wrong(read_kind, text + " 'a" * 1000, 0, 400)
        self.wrong(read_kind, "'f " * 401, 0, 400)
        self.wrong(read_kind, "'f " * 398 + "-> (", 0, 400)
        self.wrong(read_kind, "'f " * 399 + "->", 0, 400)

    def test_all_short_rows_of_pieces(self):
        pieces = ["'a", "c", "to", "(", ")", "->"]
        kinds = {1: [A, con("c"), con("to")]}
        for size in range(2, 6):
            kinds[size] = [
                ("apply", one, other)
                for k in range(1, size)
                for one in kinds[k]
                for other in kinds[size - k]
            ]
        texts = {text_of(kind): kind for row in kinds.values() for kind in row}
        begun = {tuple(text.split(" ")[:k]) for text in texts for k in range(20)}
        for text, kind in texts.items():
            self.assertEqual(read_kind(text), kind)
        for size in range(1, 5):
            for row in itertools.product(pieces, repeat=size):
                text = " ".join(row)
                good = [k for k in range(size + 1) if row[:k] in begun][-1]
                if text in texts:
                    read_kind(text)
                else:
                    with self.assertRaises(InvalidText) as caught:
                        read_kind(text)
                    self.assertGreaterEqual(caught.exception.piece, good, text)


class TestSchemes(ReadCase):
    def test_forms(self):
        found = read_scheme("'x -> 'y if same 'x , turns 'x ( list 'y ) , order ( 'x -> 'y )")
        x, y = var("x"), var("y")
        self.assertEqual(found.kind, to(x, y))
        self.assertEqual(found.needs, (("same", x), ("turns", x, listed(y)), ("order", to(x, y))))
        self.assertEqual(found.variables, ("x", "y"))
        self.assertEqual(read_scheme("whole").needs, ())
        self.assertEqual(read_scheme("whole if same to 'a").needs, (("same", con("to"), A),))
        self.assertEqual(read_scheme("whole if same 'a , same 'a").needs, (("same", A), ("same", A)))

    def test_wrong_ones(self):
        for text, piece in (
            ("'a if", 2),
            ("'a if same", 3),
            ("'a if same ,", 3),
            ("'a if same 'a ,", 5),
            ("'a if same 'a , ,", 5),
            ("'a if same 'a 'b 'c", 5),
            ("'a if same 'a order 'a", 5),
            ("'a if same 'a -> 'b", 4),
            ("'a if same list 'a 'b", 5),
            ("'a if same ( 'a )", 5),
            ("'a if 'a", 2),
            ("'a if if", 2),
            ("'a if same 'a if", 4),
            ("'a if same 'a = x", 4),
            ("if same 'a", 0),
            ("'a , same 'a", 1),
        ):
            self.wrong(read_scheme, text, 0, piece)


class TestTerms(ReadCase):
    def test_forms(self):
        x, y, f = name("x"), name("y"), name("f")
        for text, term in (
            ("x", x),
            ("7", ("whole", 7)),
            ("-7", ("whole", -7)),
            ("0", ("whole", 0)),
            ('""', ("text", "")),
            ('"a b"', ("text", "a b")),
            ("_", ("hole",)),
            ("f x", use(f, x)),
            ("f x y", use(f, x, y)),
            ("f ( x y )", use(f, use(x, y))),
            ("f ( x y ) ( x _ )", use(f, use(x, y), use(x, ("hole",)))),
            ('1 2 "a"', use(("whole", 1), ("whole", 2), ("text", "a"))),
            ("given x . x", ("given", "x", x)),
            ("given x . f x", ("given", "x", use(f, x))),
            ("given x . given y . x", ("given", "x", ("given", "y", x))),
            ("( given x . x ) y", use(("given", "x", x), y)),
            ("( given x . x ) y f", use(("given", "x", x), y, f)),
            ("f ( given x . x )", use(f, ("given", "x", x))),
            ("f ( ( given x . x ) y )", use(f, use(("given", "x", x), y))),
            ("let x = y in x", ("let", (("x", y),), x)),
            ("let x = f y and y = x in x y", ("let", (("x", use(f, y)), ("y", x)), use(x, y))),
            ("let x = let y = x in y in x", ("let", (("x", ("let", (("y", x),), y)),), x)),
            ("let x = given y . y in x", ("let", (("x", ("given", "y", y)),), x)),
            ("( let x = y in x ) f", use(("let", (("x", y),), x), f)),
            ("match x | nil = y end", ("match", x, (("nil", (), y),))),
            (
                "match f x | cons x y = x | nil = f y end",
                ("match", use(f, x), (("cons", ("x", "y"), x), ("nil", (), use(f, y)))),
            ),
            (
                "match given x . x | a = match y | b = x end | c = y end",
                ("match", ("given", "x", x), (("a", (), ("match", y, (("b", (), x),))), ("c", (), y))),
            ),
            ("f ( match x | a = y end ) y", use(f, ("match", x, (("a", (), y),)), y)),
            ("match match x | a = x end | b = y end", ("match", ("match", x, (("a", (), x),)), (("b", (), y),))),
        ):
            self.assertEqual(read_term(text), term, text)
            self.assertTrue(is_term(term))

    def test_names_are_not_compared(self):
        x = name("x")
        self.assertEqual(read_term("let x = x and x = x in x"), ("let", (("x", x), ("x", x)), x))
        self.assertEqual(read_term("match x | a x x = x | a = x end"), ("match", x, (("a", ("x", "x"), x), ("a", (), x))))

    def test_parentheses_that_are_not_written(self):
        for text, piece in (
            ("( x )", 1),
            ("( f x )", 1),
            ("( f x ) y", 1),
            ("( ( given x . x ) y ) z", 1),
            ("f ( x )", 3),
            ("f ( 1 )", 3),
            ('f ( "a" )', 3),
            ("f ( _ )", 3),
            ("( given x . x )", 6),
            ("given x . ( given y . y )", 9),
            ("( match x | a = y end )", 9),
            ("let x = ( given y . y ) in x", 9),
            ("match ( given x . x ) | a = x end", 7),
            ("f ( ( given x . x ) )", 8),
        ):
            self.wrong(read_term, text, 0, piece)

    def test_parentheses_that_are_missing(self):
        for text, piece in (
            ("f given x . x", 1),
            ("f let x = y in x", 1),
            ("f match x | a = x end", 1),
            ("match x | a = x end y", 7),
            ("f ( x y", 4),
            ("f ( x", 3),
            ("f x )", 2),
            ("f ( given x . x", 6),
            ("given x . f )", 4),
        ):
            self.wrong(read_term, text, 0, piece)

    def test_too_early_and_wrong_pieces(self):
        for text, piece in (
            ("given", 1),
            ("given x", 2),
            ("given x x", 2),
            ("given x .", 3),
            ("given x . .", 3),
            ("given 1", 1),
            ("given _", 1),
            ("given 'a", 1),
            ("let", 1),
            ("let x", 2),
            ("let x y", 2),
            ("let x =", 3),
            ("let x = y", 4),
            ("let x = y |", 4),
            ("let x = y and", 5),
            ("let x = y and in", 5),
            ("let x = y in", 5),
            ("let in x", 1),
            ("match", 1),
            ("match x", 2),
            ("match x end", 2),
            ("match x |", 3),
            ("match x | 1", 3),
            ("match x | a", 4),
            ("match x | a 1", 4),
            ("match x | a =", 5),
            ("match x | a = y", 6),
            ("match x | a = y |", 7),
            ("match x | a = y | end", 7),
            ("match x | a = y in", 6),
            ("x = y", 1),
            ("x -> y", 1),
            ("x . y", 1),
            ("'a", 0),
            ("x 'a", 1),
            ("end", 0),
            ("in", 0),
        ):
            self.wrong(read_term, text, 0, piece)

    def test_integers(self):
        top = str(10**30)
        self.assertEqual(read_term(top), ("whole", 10**30))
        self.assertEqual(read_term("-" + top), ("whole", -(10**30)))
        for text in (str(10**30 + 1), str(-(10**30) - 1), "00", "01", "-0", "-01", "+1", "1_0", "--1", "-", "1a", "9" * 5000):
            self.wrong(read_term, "f " + text, 0, 1)
        self.wrong(read_term, "\u0661", 0, 0)

    def test_strings(self):
        for text, content in (
            ('"\\""', '"'),
            ('"\\\\"', "\\"),
            ('"\\\\\\""', '\\"'),
            ('"  a  "', "  a  "),
            ('" "', " "),
            ('"( = | end"', "( = | end"),
            ('"~!"', "~!"),
            ('"a\\" b"', 'a" b'),
            ('"\\\\ \\" "', '\\ " '),
            ('"' + "a" * 200 + '"', "a" * 200),
            ('"' + '\\"' * 200 + '"', '"' * 200),
        ):
            self.assertEqual(read_term(text), ("text", content))
            self.assertEqual(read_term(f"f {text} x"), use(name("f"), ("text", content), name("x")))
        for text in (
            '"',
            '"a',
            '"a\\"',
            '"a\\n"',
            '"a\\',
            '"a"b',
            '"a""b"',
            '"\\a"',
            '"\u00e9"',
            '"\t"',
            '"%"',
            '"' + "a" * 201 + '"',
            'a"b"',
            "\"a'",
        ):
            self.wrong(read_term, "f " + text, 0, 1)
            self.wrong(read_term, "f " + text + " x", 0, 1)
        self.wrong(read_term, '"a" "b" )', 0, 2)
        self.wrong(read_term, '"a b" "c d" )', 0, 2)
        self.wrong(read_term, '"a"  "b"', 0, 1)
        self.wrong(read_term, '"a\nb"', 0, 0)

    def test_twenty_open_at_once(self):
        for many in (20, 21):
            texts = (
                ("given x . " * many + "x", 3 * 20),
                ("let x = " * many + "x" + " in x" * many, 3 * 20),
                ("match " * many + "x" + " | a = x end" * many, 20),
                ("f ( " * many + "f x" + " )" * many, 2 * 20 + 1),
            )
            for text, piece in texts:
                if many == 20:
                    self.assertTrue(is_term(read_term(text)))
                else:
                    self.wrong(read_term, text, 0, piece)
        # Each of these has a place in which one more is open.
        for text, piece in (
            ("given x . {}", 3),
            ("let x = {} in x", 3),
            ("let x = x and y = {} in x", 7),
            ("let x = x in {}", 5),
            ("match {} | a = x end", 1),
            ("match x | a = {} end", 5),
            ("match x | a = x | b = {} end", 9),
            ("f ( {} )", 2),
            ("( given x . {} ) y", 4),
            ("f x ( {} ) y", 3),
        ):
            fits = 18 if text.startswith("(") else 19
            self.assertTrue(is_term(read_term(text.format("given y . " * fits + "x"))))
            self.wrong(read_term, text.format("given y . " * (fits + 1) + "x"), 0, piece + 3 * fits)
        # A function is open up to the end of its body, a match up to its end.
        self.assertTrue(is_term(read_term("f ( given x . " * 10 + "x" + " )" * 10)))
        self.wrong(read_term, "f ( given x . " * 10 + "f ( f x )" + " )" * 10, 0, 51)
        self.assertTrue(is_term(read_term("f" + " ( given x . x )" * 30)))
        self.assertTrue(is_term(read_term("match x" + " | a = given x . given y . x" * 30 + " end")))
        self.assertEqual(read_term("let x = " + " and y = ".join(["given x . x"] * 30) + " in x")[0], "let")
        self.wrong(read_term, "match x | a = " + "given x . " * 20, 0, 5 + 3 * 19)

    def test_four_hundred_pieces(self):
        self.assertTrue(is_term(read_term(" ".join(["f"] * 400))))
        self.wrong(read_term, " ".join(["f"] * 401), 0, 400)
        self.wrong(read_term, " ".join(["f"] * 400 + [")"]), 0, 400)
        self.wrong(read_term, " ".join(["f"] * 399 + [")", "x"]), 0, 399)


class TestPrograms(ReadCase):
    def test_example(self):
        text = """data list 'a = nil | cons 'a ( list 'a )
role turns 'a 'b
member turn : 'a -> 'b
case turnlist : turns ( list 'a ) ( list 'b ) if turns 'a 'b
as turn = given x . match x | nil = nil | cons h t = cons ( turn h ) ( turn t ) end
define all : list 'a -> whole if same 'a = given x . let n = size "a b" in plus n -1"""
        turn, h, t = name("turn"), name("h"), name("t")
        body = use(name("cons"), use(turn, h), use(turn, t))
        arms = (("nil", (), name("nil")), ("cons", ("h", "t"), body))
        count = ("let", (("n", use(name("size"), ("text", "a b"))),), use(name("plus"), name("n"), ("whole", -1)))
        self.assertEqual(
            Program.read(text),
            Program(
                Data("list", ["a"], [("nil", []), ("cons", [A, listed(A)])]),
                Role("turns", ["a", "b"], [("turn", to(A, B), [], None)]),
                Case(
                    "turnlist",
                    "turns",
                    [listed(A), listed(B)],
                    [("turn", ("given", "x", ("match", name("x"), arms)))],
                    needs=[("turns", A, B)],
                ),
                Definition("all", ("given", "x", count), told=Scheme(to(listed(A), WHOLE), ("same", A))),
            ),
        )

    def test_nothing(self):
        self.assertEqual(Program.read(""), Program())
        self.assertEqual(Program.read("picks whole"), Program(picks=[WHOLE]))

    def test_every_form(self):
        text = """picks whole , whole -> text , truth
data unit = unit
data pair 'a 'b = two 'a 'b | both ( 'a -> 'b ) ( pair 'b 'a ) whole
role low 'x
member lowm : 'x -> whole = given x . 1
member lown : 'x -> 'y if same 'y , words ( pair 'x 'y )
role high 'x 'y above low 'x , low 'y settles 0 1
member highm : 'x -> 'y
role back 'x 'y settles 1 0
member backm : 'x -> 'y
role also 'x 'y settles 0 1 , 1 0
member alsom : 'x -> 'y
case lowu : low unit
as lown = given x . lown x
as lowm = given x . 2
derive sunit : same unit
define f = unit
define g : pair 'z whole = g"""
        x, y, z = var("x"), var("y"), var("z")
        found = Program.read(text)
        self.assertEqual(found.picks, (WHOLE, to(WHOLE, TEXT), TRUTH))
        rows = found.declarations
        self.assertEqual(rows[0], Data("unit", (), [("unit", ())]))
        self.assertEqual(
            rows[1], Data("pair", ("a", "b"), [("two", (A, B)), ("both", (to(A, B), pair(B, A), WHOLE))])
        )
        own = (("same", y), ("words", pair(x, y)))
        members = [("lowm", to(x, WHOLE), (), ("given", "x", ("whole", 1))), ("lown", to(x, y), own, None)]
        self.assertEqual(rows[2], Role("low", ["x"], members))
        above = [("low", x), ("low", y)]
        two = ["x", "y"]
        self.assertEqual(rows[3], Role("high", two, [("highm", to(x, y), (), None)], above=above, settles=[(0, 1)]))
        self.assertEqual(rows[4], Role("back", two, [("backm", to(x, y), (), None)], settles=[(1, 0)]))
        self.assertEqual(rows[5], Role("also", two, [("alsom", to(x, y), (), None)], settles=[(0, 1), (1, 0)]))
        members = [("lown", ("given", "x", use(name("lown"), name("x")))), ("lowm", ("given", "x", ("whole", 2)))]
        self.assertEqual(rows[6], Case("lowu", "low", [con("unit")], members))
        self.assertEqual(rows[7], Derive("sunit", "same", "unit"))
        self.assertEqual(rows[8], Definition("f", name("unit")))
        self.assertEqual(rows[9], Definition("g", name("g"), told=Scheme(pair(z, WHOLE))))
        self.assertEqual(rows[9].told.variables, ("z",))
        self.assertEqual(len(rows), 10)

    def test_no_strings(self):
        for value in NO_STRINGS:
            self.wrong(Program.read, value, 0, 0)

    def test_lines(self):
        fine = "define f = 1"
        self.wrong(Program.read, "\n", 0, 0)
        self.wrong(Program.read, " ", 0, 0)
        self.wrong(Program.read, fine + "\n", 1, 0)
        self.wrong(Program.read, "\n" + fine, 0, 0)
        self.wrong(Program.read, fine + "\n\ndefine g = 2", 1, 0)
        self.wrong(Program.read, fine + " ", 0, 4)
        self.wrong(Program.read, " " + fine, 0, 0)
        self.wrong(Program.read, fine + "\r\n" + fine, 0, 3)
        self.wrong(Program.read, fine + "\npicks whole", 1, 0)
        self.wrong(Program.read, "picks whole\npicks text", 1, 0)
        self.wrong(Program.read, fine + "\nmember m : 'a", 1, 0)
        self.wrong(Program.read, fine + "\nas m = 1", 1, 0)
        self.wrong(Program.read, "case c : same whole\ndefine f = 1\nas alike = 1", 2, 0)
        self.wrong(Program.read, "role r 'a\nas m = 1", 1, 0)
        self.wrong(Program.read, "case c : same whole\nmember m : 'a", 1, 0)
        self.wrong(Program.read, fine + "\ndefine", 1, 1)
        self.wrong(Program.read, "picks whole\n", 1, 0)
        # The first wrong line counts.
        self.wrong(Program.read, "define f =\ndefine 1\n", 0, 3)

    def test_wrong_pieces(self):
        for text, piece in (
            ("x", 0),
            ("1", 0),
            ("definee f = 1", 0),
            ("end", 0),
            ("picks", 1),
            ("picks whole ,", 3),
            ("picks , whole", 1),
            ("picks whole text whole ->", 5),
            ("picks whole = 1", 2),
            ("picks whole if same 'a", 2),
            ('"data" list = nil', 0),
            ('"define" f = 1', 0),
            ("'f = 1", 0),
            ("data", 1),
            ("data list", 2),
            ("data list 'a", 3),
            ("data list a", 2),
            ("data 'a", 1),
            ("data list 'a =", 4),
            ("data list = | nil", 3),
            ("data list = nil |", 5),
            ("data list = nil | |", 5),
            ("data list = cons 'a -> 'b", 5),
            ("data list = cons ( 'a )", 6),
            ("data list = cons list 'a )", 6),
            ("data list = nil = nil", 4),
            ("role", 1),
            ("role r above", 3),
            ("role r 'a above same", 5),
            ("role r 'a above same 'a ,", 7),
            ("role r 'a above same 'a 'b 'c", 7),
            ("role r 'a settles", 4),
            ("role r 'a settles 2", 4),
            ("role r 'a settles 0", 5),
            ("role r 'a settles 0 0", 5),
            ("role r 'a settles 1 1", 5),
            ("role r 'a settles 0 1 , 0 1", 7),
            ("role r 'a settles 0 1 , 1 1", 8),
            ("role r 'a settles 0 1 ,", 7),
            ("role r 'a settles 1 0 , 0 1", 6),
            ("role r 'a settles 0 1 above same 'a", 6),
            ("role r 'a = 1", 3),
            ("role r if same 'a", 2),
            ("case", 1),
            ("case c", 2),
            ("case c same whole", 2),
            ("case c :", 3),
            ("case c : whole", 4),
            ("case c : same whole text whole", 6),
            ("case c : same list 'a -> 'b", 6),
            ("case c : same whole if", 6),
            ("case c : same whole if same 'a ,", 9),
            ("case c : same whole , same text", 5),
            ("case c : same whole = 1", 5),
            ("define", 1),
            ("define f", 2),
            ("define f =", 3),
            ("define f :", 3),
            ("define f : whole", 4),
            ("define f : whole if same 'a", 7),
            ("define f : = 1", 3),
            ("define f = 1 = 2", 4),
            ("define f x = 1", 2),
            ("define f : whole = 1 if same 'a", 6),
            ("derive", 1),
            ("derive d", 2),
            ("derive d :", 3),
            ("derive d : same", 4),
            ("derive d : same ( list )", 4),
            ("derive d : same list 'a", 5),
            ("derive d = same list", 2),
        ):
            self.wrong(Program.read, text, 0, piece)
            if not text.startswith("picks"):
                self.wrong(Program.read, "picks whole\ndefine f = 1\n" + text, 2, piece)
        for text, piece in (
            ("member", 1),
            ("member m", 2),
            ("member m = 1", 2),
            ("member m :", 3),
            ("member m : 'a =", 5),
            ("member m : 'a if", 5),
            ("member m : 'a if same 'a =", 8),
            ("member m : 'a 1", 4),
            ("member m : 'a = 1 = 2", 6),
        ):
            self.wrong(Program.read, "role r 'a\nmember n : 'a\n" + text, 2, piece)
        for text, piece in (("as", 1), ("as m", 2), ("as m : 1", 2), ("as m =", 3), ("as m = 1 2 )", 5), ("as 1", 1)):
            self.wrong(Program.read, "case c : same whole\nas m = 1\n" + text, 2, piece)

    def test_twenty_open_at_once(self):
        for head, piece in (
            ("define f = ", 3),
            ("define f : 'a = ", 5),
            ("role r 'a\nmember m : 'a = ", 5),
            ("case c : same whole\nas m = ", 3),
        ):
            line = head.count("\n")
            self.wrong(Program.read, head + "given x . " * 20 + ")", line, piece + 60)
            self.wrong(Program.read, head + "given x . " * 21 + "x", line, piece + 60)
            self.wrong(Program.read, head + "given x . " * 19 + "f ( x )", line, piece + 57 + 3)

    def test_what_declarations_raise(self):
        def raises(error, text, **fields):
            with self.assertRaises(error) as caught:
                Program.read(text)
            for field in fields:
                self.assertEqual(getattr(caught.exception, field), fields[field])

        raises(InvalidForm, "data list 'a 'a = nil", word="variables")
        raises(InvalidForm, "data list 'a 'b 'c 'd 'e = nil", word="variables")
        raises(InvalidForm, "data list = nil | nil", word="constructors")
        raises(InvalidForm, "data list = nil 'a", word="constructors")
        raises(InvalidForm, "data list = nil whole whole whole whole whole", word="constructors")
        raises(InvalidForm, "role r\nmember m : 'a", word="variables")
        raises(InvalidForm, "role r 'a", word="members")
        raises(InvalidForm, "role r 'a\nmember m : 'a\nmember m : 'a", word="members")
        raises(InvalidForm, "role r 'a\nmember m : 'a = _", word="members")
        raises(InvalidForm, "role r 'a above same whole\nmember m : 'a", word="above")
        raises(InvalidForm, "role r 'a settles 0 1\nmember m : 'a", word="settles")
        raises(InvalidForm, "case c : same 'a", word="kinds")
        raises(InvalidForm, "case c : same whole if same 'a", word="needs")
        raises(InvalidForm, "case c : same whole\nas m = f _", word="members")
        raises(InvalidForm, "define f = _", word="term")
        raises(InvalidForm, "define f = let x = 1 and x = 2 in x", word="term")
        raises(InvalidForm, "derive d : turns list", word="role")
        raises(InvalidPicks, "picks 'a")
        raises(InvalidPicks, "picks whole , whole")
        raises(Unknown, "define f = g", index=0, word="g")
        raises(Unknown, "picks list whole\ndefine f = 1", index=1, word="list")
        raises(Misshapen, "define f : whole whole = 1", index=0)
        # A wrong text is told ahead of all that.
        self.wrong(Program.read, "define f = _\ndefine g = )", 1, 3)
        self.wrong(Program.read, "picks 'a\nrole r\n", 2, 0)


if __name__ == "__main__":
    unittest.main()
