"""Writing: points 90 to 95."""

import random
import unittest

from leastneeds.declarations import Case, Data, Definition, Derive, Role
from leastneeds.kinds import con, text_of, to, var
from leastneeds.program import Program
from leastneeds.reader import read_kind, read_scheme, read_term
from leastneeds.schemes import Scheme
from leastneeds.writer import write_declaration, write_program, write_scheme, write_term

from samples import A, B, C, D, F, G, LIST, PAIR, TEXT, TRUTH, WHOLE, lattice, listed, pair, settling, used

EXAMPLE = """data list 'a = nil | cons 'a ( list 'a )
role turns 'a 'b
member turn : 'a -> 'b
case turnlist : turns ( list 'a ) ( list 'b ) if turns 'a 'b
as turn = given x . match x | nil = nil | cons h t = cons ( turn h ) ( turn t ) end
define all : list 'a -> whole if same 'a = given x . let n = size "a b" in plus n -1"""


def name(word):
    return ("name", word)


def use(function, *arguments):
    for argument in arguments:
        function = ("use", function, argument)
    return function


def whole(number):
    return ("whole", number)


def text(signs):
    return ("text", signs)


class TestSchemes(unittest.TestCase):
    def writes(self, scheme, told):
        self.assertEqual(write_scheme(scheme), told)
        back = read_scheme(told)
        self.assertEqual(back, scheme)
        self.assertEqual((back.kind, back.needs), (scheme.named().kind, scheme.named().needs))

    def test_forms(self):
        self.writes(Scheme(WHOLE), "whole")
        self.writes(Scheme(A), "'a")
        self.writes(Scheme(to(A, B, C)), "'a -> 'b -> 'c")
        self.writes(Scheme(to(to(A, B), A)), "( 'a -> 'b ) -> 'a")
        self.writes(Scheme(to(listed(pair(A, WHOLE)), TEXT)), "list ( pair 'a whole ) -> text")
        self.writes(Scheme(used(con("to"), A)), "to 'a")
        self.writes(Scheme(used(to(A, B), C)), "( 'a -> 'b ) 'c")
        self.writes(Scheme(used(F, to(A, B))), "'a ( 'b -> 'c )")

    def test_needs(self):
        self.writes(Scheme(A, ("same", A)), "'a if same 'a")
        self.writes(Scheme(A, ("words", A), ("same", listed(A))), "'a if words 'a , same ( list 'a )")
        self.writes(Scheme(to(A, B), ("turns", A, to(A, B))), "'a -> 'b if turns 'a ( 'a -> 'b )")
        self.writes(Scheme(WHOLE, ("maps", con("list")), ("maps", used(con("pair"), A))), "whole if maps list , maps ( pair 'a )")

    def test_names_of_variables(self):
        zz = var("zz")
        self.writes(Scheme(to(zz, B, zz)), "'a -> 'b -> 'a")
        self.writes(Scheme(to(B, A), ("same", D), ("same", A)), "'a -> 'b if same 'c , same 'b")
        words = [var("v" + letter) for letter in "abcdefghijklmnopqrstuvwxyz"] + [var("w" + letter) for letter in "abcdefghijklmnopqrst"]
        told = write_scheme(Scheme(to(*words)))
        names = [piece[1:] for piece in told.split(" ") if piece != "->"]
        self.assertEqual(names[:3] + names[25:28], ["a", "b", "c", "z", "aa", "ab"])
        # `as` is no name, so the variable behind `ar` is called `at`.
        self.assertEqual(names[43:46], ["ar", "at", "au"])

    def test_arguments(self):
        self.assertEqual(write_scheme(scheme=Scheme(A)), "'a")


class TestTerms(unittest.TestCase):
    def writes(self, term, told):
        self.assertEqual(write_term(term), told)
        self.assertEqual(read_term(told), term)

    def test_pieces(self):
        self.writes(name("x"), "x")
        self.writes(whole(0), "0")
        self.writes(whole(-7), "-7")
        self.writes(whole(10**30), "1" + "0" * 30)
        self.writes(whole(-(10**30)), "-1" + "0" * 30)
        self.writes(("hole",), "_")

    def test_strings(self):
        for signs, told in (
            ("", '""'),
            ("a", '"a"'),
            ("a b  c", '"a b  c"'),
            (" ", '" "'),
            ('"', '"\\""'),
            ("\\", '"\\\\"'),
            ('\\"', '"\\\\\\""'),
            ('a" ( b\\ c', '"a\\" ( b\\\\ c"'),
            ("\\n", '"\\\\n"'),
            ("( ) = | : , . -> _ '", '"( ) = | : , . -> _ \'"'),
            ("~" * 200, '"' + "~" * 200 + '"'),
            ('"' * 200, '"' + '\\"' * 200 + '"'),
        ):
            self.writes(text(signs), told)
            self.writes(use(name("f"), text(signs), text(signs)), "f " + told + " " + told)

    def test_uses(self):
        f, x, y = name("f"), name("x"), name("y")
        self.writes(use(f, x), "f x")
        self.writes(use(f, x, y, whole(1), text("a"), ("hole",)), 'f x y 1 "a" _')
        self.writes(use(f, use(f, x)), "f ( f x )")
        self.writes(use(f, use(f, x), use(f, y, x)), "f ( f x ) ( f y x )")
        self.writes(use(use(f, use(f, x)), y), "f ( f x ) y")
        self.writes(use(whole(1), text("a")), '1 "a"')
        self.writes(use(("hole",), ("hole",)), "_ _")
        # A line has at most 400 pieces.
        self.writes(use(*[f] * 400), " ".join(["f"] * 400))

    def test_parentheses_in_uses(self):
        x = name("x")
        given = ("given", "y", use(x, x))
        let = ("let", (("y", x),), x)
        match = ("match", x, (("nil", (), x),))
        for inner, told in ((given, "given y . x x"), (let, "let y = x in x"), (match, "match x | nil = x end")):
            self.writes(use(inner, x), f"( {told} ) x")
            self.writes(use(x, inner), f"x ( {told} )")
            self.writes(use(inner, inner, inner), f"( {told} ) ( {told} ) ( {told} )")
            self.writes(use(x, use(inner, x)), f"x ( ( {told} ) x )")

    def test_no_other_parentheses(self):
        x = name("x")
        given = ("given", "y", x)
        let = ("let", (("y", given), ("z", x)), given)
        match = ("match", given, (("nil", (), let), ("cons", ("h", "t"), given)))
        self.writes(("given", "x", given), "given x . given y . x")
        self.writes(let, "let y = given y . x and z = x in given y . x")
        self.writes(match, "match given y . x | nil = let y = given y . x and z = x in given y . x | cons h t = given y . x end")
        self.writes(("let", (("x", let),), match), "let x = " + write_term(let) + " in " + write_term(match))
        self.writes(("match", match, (("nil", ("a", "b", "c", "d"), match),)), "match " + write_term(match) + " | nil a b c d = " + write_term(match) + " end")
        self.writes(("given", "x", use(x, x)), "given x . x x")
        self.writes(("let", (("x", use(x, x)),), use(x, x)), "let x = x x in x x")

    def test_arguments(self):
        self.assertEqual(write_term(term=("hole",)), "_")


class TestDeclarations(unittest.TestCase):
    def writes(self, declaration, told):
        self.assertEqual(write_declaration(declaration), told)

    def test_data(self):
        self.writes(LIST, "data list 'a = nil | cons 'a ( list 'a )")
        self.writes(PAIR, "data pair 'a 'b = two 'a 'b")
        self.writes(Data("unit", (), (("one", ()),)), "data unit = one")
        fields = (to(A, A), used(F, A), con("list"), WHOLE)
        self.writes(Data("odd", ("f", "a"), (("odd", fields), ("none", ()))), "data odd 'f 'a = odd ( 'a -> 'a ) ( 'f 'a ) list whole | none")

    def test_roles(self):
        x = name("x")
        self.writes(Role("pick", ("a",), [("picked", to(A, A), (), None)]), "role pick 'a\nmember picked : 'a -> 'a")
        members = [("zz", to(B, var("q"), TEXT), [("same", var("q")), ("turns", B, A)], ("given", "x", x)), ("yy", A, (), x)]
        lines = ["role pick 'a 'b", "member zz : 'b -> 'q -> text if same 'q , turns 'b 'a = given x . x", "member yy : 'a = x"]
        self.writes(Role("pick", ("a", "b"), members), "\n".join(lines))
        for settles, told in ((((0, 1),), "0 1"), (((1, 0),), "1 0"), (((0, 1), (1, 0)), "0 1 , 1 0")):
            lines[0] = "role pick 'a 'b settles " + told
            self.writes(Role("pick", ("a", "b"), members, settles=settles), "\n".join(lines))
            lines[0] = "role pick 'a 'b above same 'a , turns 'b 'a settles " + told
            self.writes(Role("pick", ("a", "b"), members, above=[("same", A), ("turns", B, A)], settles=settles), "\n".join(lines))
        lines[0] = "role pick 'a 'b above order 'b"
        self.writes(Role("pick", ("a", "b"), members, above=[("order", B)]), "\n".join(lines))

    def test_cases(self):
        x = name("x")
        self.writes(Case("cc", "same", [WHOLE], [("alike", x)]), "case cc : same whole\nas alike = x")
        self.writes(Case("cc", "same", [listed(A)], []), "case cc : same ( list 'a )")
        found = Case("cc", "turns", [F, to(A, A)], [("one", x), ("two", use(x, x))], needs=[("same", A), ("turns", F, to(A, A))])
        self.writes(found, "case cc : turns 'f ( 'a -> 'a ) if same 'a , turns 'f ( 'a -> 'a )\nas one = x\nas two = x x")
        self.writes(Case("cc", "maps", [used(con("pair"), B)], []), "case cc : maps ( pair 'b )")
        self.writes(Case("cc", "maps", [con("list")], []), "case cc : maps list")

    def test_definitions(self):
        x = name("x")
        self.writes(Definition("it", use(x, x)), "define it = x x")
        self.writes(Definition("it", x, told=Scheme(to(G, B), ("same", var("c")), ("words", G))), "define it : 'a -> 'b if same 'c , words 'a = x")
        self.writes(Definition("it", x, told=Scheme(WHOLE)), "define it : whole = x")

    def test_derives(self):
        for role in ("same", "order", "words"):
            self.writes(Derive("dd", role, "list"), f"derive dd : {role} list")
        self.assertEqual(write_declaration(declaration=Derive("dd", "same", "truth")), "derive dd : same truth")


class TestPrograms(unittest.TestCase):
    def same_again(self, program):
        told = write_program(program)
        back = Program.read(told)
        self.assertEqual(back, program)
        self.assertEqual(back.picks, program.picks)
        self.assertEqual(write_program(back), told)
        lines = [write_declaration(row) for row in program.declarations]
        if program.picks:
            lines = ["picks " + " , ".join([text_of(kind) for kind in program.picks])] + lines
        self.assertEqual(told, "\n".join(lines))
        return told

    def test_the_empty_program(self):
        self.assertEqual(self.same_again(Program()), "")

    def test_the_example(self):
        program = Program.read(EXAMPLE)
        self.assertEqual(write_program(program), EXAMPLE)
        self.assertEqual(write_program(program=program), EXAMPLE)
        self.assertEqual("\n".join(write_declaration(row) for row in program.declarations), EXAMPLE)
        self.same_again(program)

    def test_picks(self):
        self.assertEqual(self.same_again(Program(picks=(WHOLE,))), "picks whole")
        told = self.same_again(Program(LIST, picks=[to(WHOLE, TEXT), listed(TRUTH), WHOLE]))
        self.assertEqual(told, "picks whole -> text , list truth , whole\ndata list 'a = nil | cons 'a ( list 'a )")

    def test_programs_of_other_tests(self):
        for program in (lattice(), settling()):
            self.same_again(program)

    def test_every_declaration(self):
        program = Program.read(
            "picks whole , text\n"
            "define it : 'a -> truth if order 'a , words ( list 'a ) = given x . alike x x\n"
            "derive dd : words list\n"
            "role turns 'a 'b above same 'a , words 'b settles 0 1 , 1 0\n"
            "member turn : 'a -> 'b = given x . back x\n"
            "member back : 'a -> 'b if same 'b\n"
            "role maps 'f\n"
            "member over : ( 'a -> 'b ) -> 'f 'a -> 'f 'b\n"
            "data list 'a = nil | cons 'a ( list 'a )\n"
            "case cc : turns whole text\n"
            "as back = given x . \"a \\\" b \\\\\"\n"
            "case mm : maps list\n"
            "as over = given f . given l . match l | nil = nil | cons h t = cons ( f h ) ( over f t ) end\n"
            "define at = let p = given x . p x and q = -1 in given y . it ( cons y nil )"
        )
        told = self.same_again(program)
        self.assertEqual(len(told.split("\n")), 14)
        self.assertEqual(told.split("\n")[1:3], ["define it : 'a -> truth if order 'a , words ( list 'a ) = given x . alike x x", "derive dd : words list"])

    def test_names_of_told_schemes(self):
        definition = Definition("it", name("alike"), told=Scheme(to(D, D, TRUTH), ("same", D)))
        program = Program(definition)
        self.assertEqual(self.same_again(program), "define it : 'a -> 'a -> truth if same 'a = alike")
        self.assertEqual(Program.read(write_program(program)).definition_named("it").told.variables, ("a",))
        # Members of roles keep their variables.
        role = Role("pick", ("q",), [("picked", to(var("q"), D), [("same", D)], None)])
        back = Program.read(write_program(Program(role))).role_named("pick")
        self.assertEqual(back.members, role.members)


class TestAnyThatIsWritten(unittest.TestCase):
    """Texts of random kinds, schemes and terms are read as what they tell."""

    def kind(self, dice, depth):
        chance = dice.random()
        if depth == 0 or chance < 0.3:
            words = ["whole", "text", "truth", "list", "to"]
            return var(dice.choice(["a", "b", "zz"])) if chance < 0.15 or depth == 0 and chance < 0.6 else con(dice.choice(words))
        one, other = self.kind(dice, depth - 1), self.kind(dice, depth - 1)
        return to(one, other) if chance < 0.6 else used(one, other)

    def term(self, dice, depth):
        chance = dice.random()
        if depth == 0 or chance < 0.2:
            signs = "".join(dice.choice(' a"\\(|.') for _ in range(dice.randrange(5)))
            return dice.choice([name("x"), name("y"), whole(dice.randrange(-99, 99)), text(signs), ("hole",)])
        inner = [self.term(dice, depth - 1) for _ in range(4)]
        if chance < 0.5:
            return ("use", inner[0], inner[1])
        if chance < 0.65:
            return ("given", dice.choice("xyz"), inner[0])
        if chance < 0.8:
            words = dice.sample("xyz", dice.randint(1, 3))
            return ("let", tuple(zip(words, inner)), inner[3])
        arms = [(word, tuple(dice.sample("xyz", dice.randint(0, 3))), part) for word, part in zip(("nil", "cons", "nil"), inner)]
        return ("match", inner[3], tuple(arms[: dice.randint(1, 3)]))

    def test_them(self):
        dice = random.Random(95)
        for _ in range(1500):
            kind = self.kind(dice, 3)
            self.assertEqual(read_kind(text_of(kind)), kind)
            scheme = Scheme(kind, *[("same", self.kind(dice, 2)) for _ in range(dice.randrange(3))])
            told = write_scheme(scheme)
            self.assertEqual(read_scheme(told), scheme)
            self.assertEqual(write_scheme(read_scheme(told)), told)
            term = self.term(dice, 4)
            if len(write_term(term).split(" ")) <= 100:
                self.assertEqual(read_term(write_term(term)), term)


if __name__ == "__main__":
    unittest.main()
