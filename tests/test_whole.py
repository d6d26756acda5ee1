"""The whole program: points 1 to 3, and every name that the interface lists."""

import ast
import copy
import importlib
import inspect
import itertools
import os
import random
import unittest

from leastneeds import errors
from leastneeds.contexts import entails, hopeless, improving, least
from leastneeds.cores import core, cut, is_bad, mends
from leastneeds.declarations import Case, Data, Declaration, Definition, Derive, Role
from leastneeds.derived import derived, wanted
from leastneeds.faults import fault_of
from leastneeds.groups import rings, uses
from leastneeds.house import GuardedHouse, House
from leastneeds.inferring import scheme_of
from leastneeds.kinds import con, is_kind, put, size_of, text_of, to, var, variables_of
from leastneeds.looking import is_marked
from leastneeds.machine import Compiled
from leastneeds.marked import due, marked
from leastneeds.papers import is_lacking, is_paper
from leastneeds.plain import events, run
from leastneeds.primitives import Primitives
from leastneeds.program import Program
from leastneeds.reader import read_kind, read_scheme, read_term
from leastneeds.reasons import is_why, reasons, why
from leastneeds.records import above, is_record, record
from leastneeds.schemes import Scheme
from leastneeds.search import Context
from leastneeds.shapes import shape_of, shapes_of
from leastneeds.terms import free_names, is_term, part_at, places
from leastneeds.uniting import fits, unite
from leastneeds.values import is_of, is_value, parts_of
from leastneeds.ways import ways
from leastneeds.within import within
from leastneeds.writer import write_program, write_scheme, write_term

from marks import check_marked, wheres
from samples import A, B, LIST, TEXT, TRUTH, WHOLE, listed, pair

PACKAGE = os.path.join(os.path.dirname(os.path.dirname(os.path.abspath(__file__))), "leastneeds")

# Of each file: what it defines, with the names of the parameters; of classes the methods, too.
FUNCTIONS = {
    "kinds": {"var": "name", "con": "name *parts", "to": "*kinds", "is_kind": "value", "size_of": "*kinds", "variables_of": "*kinds", "put": "kind by", "text_of": "kind"},
    "uniting": {"unite": "pairs", "fits": "patterns kinds"},
    "shapes": {"shapes_of": "program role", "shape_of": "program kind shapes"},
    "terms": {"places": "term", "is_term": "value", "part_at": "term place", "free_names": "term"},
    "papers": {"is_paper": "context need value", "is_lacking": "context need value"},
    "contexts": {"improving": "program needs given= fixed=", "entails": "program one other", "least": "program needs", "hopeless": "program given need fixed="},
    "groups": {"rings": "program", "uses": "program name"},
    "inferring": {"scheme_of": "program term"},
    "faults": {"fault_of": "program term"},
    "within": {"within": "program one other"},
    "marked": {"marked": "program where", "due": "program where"},
    "looking": {"is_marked": "program where value"},
    "ways": {"ways": "program where"},
    "values": {"is_value": "value", "parts_of": "value", "is_of": "program value kind"},
    "plain": {"run": "program name * limit=", "events": "program name * limit="},
    "records": {"above": "program record k", "record": "program need", "is_record": "program need value"},
    "derived": {"wanted": "program name", "derived": "program name"},
    "reasons": {"reasons": "program name need", "why": "program name need", "is_why": "program name need value"},
    "cores": {"cut": "term *places", "core": "program where", "is_bad": "program where *places", "mends": "program where most"},
    "writer": {"write_scheme": "scheme", "write_term": "term", "write_program": "program", "write_declaration": "declaration"},
    "reader": {"read_kind": "text", "read_scheme": "text", "read_term": "text"},
}
CLASSES = {
    "schemes": {"Scheme": {"__init__": "kind *needs", "under": "kind needs", "named": "", "at": "*kinds", "__eq__": "other"}},
    "declarations": {
        "Declaration": {},
        "Data": {"__init__": "name variables constructors", "__eq__": "other"},
        "Role": {"__init__": "name variables members * above= settles=", "__eq__": "other"},
        "Case": {"__init__": "name role kinds members * needs=", "__eq__": "other"},
        "Definition": {"__init__": "name term * told=", "__eq__": "other"},
        "Derive": {"__init__": "name role data", "__eq__": "other"},
    },
    "program": {
        "Program": {
            "__init__": "*declarations * picks=",
            "of": "declarations * picks=",
            "read": "text",
            "data_named": "name",
            "role_named": "name",
            "case_named": "name",
            "definition_named": "name",
            "cases_of": "role",
            "scheme": "name",
            "fault": "where",
            "with_more": "*declarations",
            "__eq__": "other",
        }
    },
    "search": {
        "Context": {
            "__init__": "program *needs",
            "given_by": "program needs",
            "__len__": "",
            "__eq__": "other",
            "all_needs": "",
            "meets": "need",
            "is_met_by": "other",
            "joined": "other",
            "paper": "need",
            "papers": "need",
            "lacking": "need",
        }
    },
    "primitives": {"Primitives": {"told_scheme": "name", "done": "name *values"}},
    "plain": {"Outcome": {"__eq__": "other"}},
    "machine": {"Compiled": {"__init__": "program *terms", "term_at": "where", "run": "name * limit=", "events": "name * limit="}},
    "house": {
        "House": {
            "__init__": "program",
            "scheme": "name",
            "fault": "where",
            "run": "name * limit=",
            "change": "*deeds",
            "undo": "count=",
            "redo": "count=",
            "attempt": "action",
            "explore": "action",
            "copy": "",
            "__eq__": "other",
        },
        "GuardedHouse": {"__init__": "program *guards", "change": "*deeds", "undo": "count=", "redo": "count=", "copy": "", "__eq__": "other"},
    },
}

TEXT_OF_PROGRAM = """picks whole
data list 'a = nil | cons 'a ( list 'a )
data pair 'a 'b = two 'a 'b
derive slist : same list
derive olist : order list
derive wlist : words list
derive spair : same pair
role turns 'a 'b settles 0 1
member turn : 'a -> 'b
member into : 'c -> 'a -> text if words 'c , same 'a = given x . given y . match alike y y | no = "" | yes = shown x end
role zeros 'a above same 'a
member zero : 'a
case turnw : turns whole text
as turn = spell
case turnl : turns ( list 'a ) ( pair 'a whole ) if words 'a
as turn = given l . match l | cons h t = two h ( size ( shown h ) ) | nil = turn l end
case zerow : zeros whole
as zero = 0
case zerop : zeros ( pair 'a 'b ) if zeros 'a , zeros 'b
as zero = two zero zero
define has = given x . given l . match l | nil = no | cons h t = match alike x h | no = has x t | yes = yes end end
define both : 'a -> truth if same 'a , order 'a = given x . match alike x x | no = no | yes = atmost x x end
define calm = given x . turn ( cons x nil )"""
PROGRAM = Program.read(TEXT_OF_PROGRAM)
FAULTY = PROGRAM.with_more(Definition("bad", read_term("two ( plus yes 1 ) ( join 1 2 )")))
HAS = ("definition", "has")


def told_parameters(function):
    found = []
    has_star = False
    for parameter in inspect.signature(function).parameters.values():
        word = parameter.name + ("=" if parameter.default is not parameter.empty else "")
        if parameter.kind == parameter.VAR_POSITIONAL:
            found.append("*" + word)
        elif parameter.kind == parameter.KEYWORD_ONLY:
            found += [word] if has_star else ["*", word]
            has_star = True
        else:
            found.append(word)
    return " ".join([word for word in found if word not in ("self", "cls")])


class TestInterface(unittest.TestCase):
    def test_functions(self):
        for file, names in FUNCTIONS.items():
            module = importlib.import_module("leastneeds." + file)
            for name, parameters in names.items():
                self.assertIn(name, self.defined_in(file, ast.FunctionDef))
                self.assertEqual(told_parameters(getattr(module, name)), parameters, name)

    def test_classes(self):
        for file, names in CLASSES.items():
            module = importlib.import_module("leastneeds." + file)
            for name, methods in names.items():
                self.assertIn(name, self.defined_in(file, ast.ClassDef))
                made = getattr(module, name)
                for method, parameters in methods.items():
                    # In the body of the class itself.
                    self.assertIn(method, vars(made), (name, method))
                    self.assertEqual(told_parameters(getattr(made, method)), parameters, (name, method))

    def defined_in(self, file, sort):
        with open(os.path.join(PACKAGE, file + ".py")) as stream:
            return [node.name for node in ast.parse(stream.read()).body if isinstance(node, sort)]

    def test_generators(self):
        for function in (places, ways, events, Context.papers, Compiled.events):
            self.assertTrue(inspect.isgeneratorfunction(function))

    def test_errors(self):
        names = "InvalidForm InvalidDeclaration InvalidPicks Repeated BadArms Misshapen RoleRing BadMembers Grows Uncovered "
        names += "Underivable Clash Unsupported Improper InvalidKind InvalidNeed InvalidScheme InvalidCount InvalidValue "
        names += "InvalidLimit InvalidMarked InvalidText InvalidDeed InvalidGuard NotClosed Unknown UnknownName OutOfTerm "
        names += "NoPrimitive NoDefinition NoCore Unmet OutOfRange Known Missing Faulty Wrong Broken"
        self.assertEqual(sorted(self.defined_in("errors", ast.ClassDef)), sorted(names.split(" ")))
        for name in names.split(" "):
            bases = getattr(errors, name).__bases__
            self.assertEqual(len(bases), 1)
            self.assertIn(bases[0], (ValueError, LookupError, RuntimeError))

    def test_attributes(self):
        outcome = run(Program(Definition("it", ("whole", 1))), "it")
        for found, names in (
            (Scheme(A, ("same", A)), "kind needs variables size"),
            (LIST, "name variables constructors"),
            (PROGRAM.role_named("turns"), "name variables members above settles"),
            (PROGRAM.case_named("slist"), "name role kinds members needs"),
            (PROGRAM.definition_named("both"), "name term told"),
            (Derive("dd", "same", "list"), "name role data"),
            (PROGRAM, "declarations picks faults is_right"),
            (Context(PROGRAM), "program needs"),
            (outcome, "ending result counts steps"),
            (Compiled(PROGRAM), "program"),
            (House(PROGRAM), "program moment undone depth looked news"),
            (GuardedHouse(PROGRAM), "program moment undone depth looked news guards"),
        ):
            for name in names.split(" "):
                self.assertTrue(hasattr(found, name), name)
        for made in (Data, Role, Case, Definition, Derive):
            self.assertTrue(issubclass(made, Declaration))
        self.assertEqual(Primitives.NAMES[0], "plus")


class TestConventions(unittest.TestCase):
    def test_copies_of_what_is_given(self):
        variables, fields, constructors = ["a"], [A, listed(A)], [("nil", ()), None]
        constructors[1] = ("cons", fields)
        data = Data("list", variables, constructors)
        members, own, over = [], [("same", B)], [("same", A)]
        members.append(("mm", to(A, B, TEXT), own, None))
        role = Role("pick", variables, members, above=over, settles=[])
        kinds, rows, needs = [listed(A)], [("mm", read_term('given x . given y . ""'))], [("same", A)]
        case = Case("picklist", "pick", kinds, rows, needs=needs)
        picks = [WHOLE, TEXT]
        program = Program.of([data, role, Derive("slist", "same", "list"), case], picks=picks)
        before = write_program(program)
        for row in (variables, fields, constructors, members, own, over, kinds, rows, needs, picks):
            row.clear()
        self.assertEqual(write_program(program), before)
        self.assertEqual(Program.read(before), program)
        for found in (data.variables, data.constructors, data.constructors[1][1], role.members, role.members[0][2], role.above, role.settles):
            self.assertIsInstance(found, tuple)
        for found in (case.kinds, case.members, case.needs, program.picks, program.declarations):
            self.assertIsInstance(found, tuple)
        needs = [("same", A)]
        context = Context.given_by(program, needs)
        scheme = Scheme.under(A, needs)
        needs.clear()
        self.assertEqual((context.needs, scheme.needs, len(context)), ((("same", A),), (("same", A),), 1))

    def test_arguments_stay(self):
        need = ("same", listed(A))
        pairs, by, needs = [(A, listed(B))], {"a": listed(A)}, [("order", A), need]
        kinds, picks, shapes = [A, WHOLE], [WHOLE], {"a": 0}
        given = [pairs, by, needs, kinds, picks, shapes]
        before = copy.deepcopy(given)
        unite(pairs)
        fits(kinds, [WHOLE, WHOLE])
        put(to(A, A), by)
        shape_of(PROGRAM, listed(A), shapes)
        Scheme.under(A, needs)
        Context.given_by(PROGRAM, needs)
        improving(PROGRAM, needs, given=needs, fixed=["a"])
        entails(PROGRAM, needs, needs)
        least(PROGRAM, needs)
        hopeless(PROGRAM, needs, need, fixed=["a"])
        Program(picks=picks)
        House(PROGRAM).change(("picks", picks))
        self.assertEqual(given, before)

    def results(self):
        """The results of many calls, with the kinds of values that they are to be."""
        where, scheme, context = HAS, PROGRAM.scheme("both"), Context(PROGRAM, ("order", A), ("same", A))
        bad, need = ("definition", "bad"), ("same", A)
        machine, house = Compiled(PROGRAM), House(PROGRAM)
        return [
            (tuple, [variables_of(A, B), shapes_of(PROGRAM, "turns"), free_names(read_term("x y")), part_at(read_term("x y"), (0,))]),
            (tuple, [PROGRAM.cases_of("same"), PROGRAM.faults, FAULTY.faults, context.needs, context.all_needs(), context.paper(need)]),
            (tuple, [context.lacking(("words", A)), least(PROGRAM, [need]), rings(PROGRAM), uses(PROGRAM, "has"), fault_of(PROGRAM, read_term("1 2"))]),
            (tuple, [within(PROGRAM, scheme, scheme), due(PROGRAM, where), marked(PROGRAM, where), machine.term_at(where), wanted(PROGRAM, "slist")]),
            (tuple, [record(PROGRAM, ("order", listed(WHOLE))), above(PROGRAM, record(PROGRAM, ("order", WHOLE)), 0), Primitives.done("size", ("text", ""))]),
            (tuple, [reasons(PROGRAM, "has", need), why(PROGRAM, "has", need), core(FAULTY, bad), cut(read_term("x y"), (0,)), house.looked, house.news]),
            (tuple, [scheme.at(WHOLE), scheme.needs, scheme.variables, GuardedHouse(PROGRAM).guards, next(iter(context.papers(need)))]),
            (dict, [unite([(A, B)]), fits([A], [B]), improving(PROGRAM, [("turns", WHOLE, A)]), within(PROGRAM, scheme, scheme)[0]]),
            (list, [mends(FAULTY, bad, 2)]),
            (bool, [is_kind(A), is_kind(1), is_term(("hole",)), is_term(1), PROGRAM.is_right, FAULTY.is_right, context.meets(need), context.is_met_by(context)]),
            (bool, [is_paper(context, need, None), is_lacking(context, need, None), entails(PROGRAM, [need], []), hopeless(PROGRAM, [], need)]),
            (bool, [is_marked(PROGRAM, where, None), is_value(None), is_value(("function",)), is_of(PROGRAM, ("function",), to(A, A)), is_of(PROGRAM, None, A)]),
            (bool, [is_record(PROGRAM, ("same", WHOLE), None), is_why(PROGRAM, "has", need, None), is_bad(FAULTY, bad), is_bad(FAULTY, where)]),
            (bool, [scheme == scheme, scheme == A, LIST == LIST, PROGRAM == FAULTY, context == context, house == house, house == 1]),
            (int, [size_of(A), scheme.size, len(context), shape_of(PROGRAM, con("list"), {}), parts_of(("function",)), house.moment, house.undone, house.depth]),
            (str, [text_of(A), write_scheme(scheme), write_term(("hole",)), write_program(PROGRAM)]),
            (type(None), [unite([(WHOLE, TEXT)]), fits([WHOLE], [A]), shape_of(PROGRAM, A, {}), context.lacking(need), context.paper(("words", A)), fault_of(PROGRAM, read_term("1"))]),
            (type(None), [PROGRAM.fault(where), why(PROGRAM, "both", ("words", A)), within(PROGRAM, Scheme(A), Scheme(WHOLE)), house.change(), house.undo(), house.redo()]),
        ]

    def test_kinds_of_results(self):
        for sort, found in self.results():
            for value in found:
                self.assertIs(type(value), sort, value)

    def test_equal_calls(self):
        for one, other in zip(self.results(), self.results()):
            self.assertEqual(one[1], other[1])
        other = Program.read(TEXT_OF_PROGRAM)
        self.assertEqual(other, PROGRAM)
        for row in wheres(PROGRAM):
            self.assertEqual(marked(other, row), marked(PROGRAM, row))
            self.assertEqual(due(other, row), due(PROGRAM, row))
            self.assertEqual(list(itertools.islice(ways(other, row), 3)), list(itertools.islice(ways(PROGRAM, row), 3)))

    def test_results_may_be_changed(self):
        found = unite([(A, listed(B))])
        found.clear()
        self.assertEqual(unite([(A, listed(B))]), {"a": listed(B)})
        by = within(PROGRAM, PROGRAM.scheme("both"), PROGRAM.scheme("both"))[0]
        by["zz"] = A
        self.assertNotIn("zz", within(PROGRAM, PROGRAM.scheme("both"), PROGRAM.scheme("both"))[0])
        found = mends(FAULTY, ("definition", "bad"), 2)
        found.clear()
        self.assertTrue(mends(FAULTY, ("definition", "bad"), 2))

    def test_objects_of_other_classes(self):
        program = Program(Definition("it", ("whole", 1)))
        objects = [
            Scheme(A),
            LIST,
            PROGRAM.role_named("turns"),
            PROGRAM.case_named("slist"),
            Definition("list", ("whole", 1)),
            Derive("list", "same", "list"),
            PROGRAM,
            Context(PROGRAM),
            run(program, "it"),
            House(PROGRAM),
            GuardedHouse(PROGRAM),
            Declaration(),
            Compiled(PROGRAM),
            None,
            True,
            1,
            "list",
            (),
            [],
            {},
            A,
        ]
        for k, one in enumerate(objects):
            for m, other in enumerate(objects):
                if k != m and not (one == 1 and other == 1):
                    self.assertFalse(one == other, (one, other))
                    self.assertTrue(one != other)

    def test_generators_raise_as_they_begin(self):
        context = Context(PROGRAM)
        for made, error in (
            (lambda: context.papers(None), errors.InvalidNeed),
            (lambda: ways(PROGRAM, None), errors.UnknownName),
            (lambda: ways(FAULTY, HAS), errors.Faulty),
            (lambda: events(PROGRAM, None), errors.NoDefinition),
            (lambda: Compiled(PROGRAM).events("has"), errors.NotClosed),
        ):
            found = made()
            with self.assertRaises(error):
                next(found)

    def test_first_errors(self):
        # Where no order is told arguments are looked at from left to right.
        for call, error in (
            (lambda: Scheme(1, 2), errors.InvalidKind),
            (lambda: Data(1, 1, 1), errors.InvalidForm),
            (lambda: within(PROGRAM, None, None), errors.InvalidScheme),
            (lambda: run(PROGRAM, None, limit=None), errors.NoDefinition),
            (lambda: Compiled(FAULTY, None), errors.Faulty),
            (lambda: House(PROGRAM).change(("take", ("data", "zzz")), None), errors.InvalidDeed),
        ):
            with self.assertRaises(error):
                call()

    def test_deep_values(self):
        value = A
        for _ in range(245):
            value = (value,)
        deep = ("con", "list")
        for _ in range(240):
            deep = ("apply", con("list"), deep)
        context = Context(PROGRAM, ("same", A))
        for part in (value, [value], deep, ("given", value, ()), ("name", "has", (deep,), ()), {"a": value}):
            self.assertFalse(is_term(part))
            self.assertFalse(is_value(part))
            self.assertFalse(is_marked(PROGRAM, HAS, part))
            self.assertFalse(is_paper(context, ("same", A), part))
            self.assertFalse(is_lacking(context, ("same", A), part))
            self.assertFalse(is_record(PROGRAM, ("same", WHOLE), part))
            self.assertFalse(is_why(PROGRAM, "has", ("same", A), part))
            for call in (lambda: Scheme(("zzz", part)), lambda: read_kind(part), lambda: Program(part), lambda: Compiled(PROGRAM, part)):
                with self.assertRaises(ValueError):
                    call()
            for call in (lambda: PROGRAM.scheme(part), lambda: marked(PROGRAM, part), lambda: part_at(("hole",), part), lambda: House(PROGRAM).undo(part)):
                with self.assertRaises(LookupError):
                    call()
        self.assertTrue(is_kind(deep))


class TestPromises(unittest.TestCase):
    """Point 3, for terms that are made at random."""

    WORDS = ["nil", "cons", "two", "no", "yes", "alike", "atmost", "shown", "turn", "into", "zero", "plus", "equal", "has", "both", "calm"]

    def term(self, dice, depth, scope):
        chance = dice.random()
        if depth == 0 or chance < 0.2:
            if scope and chance < 0.13:
                return ("name", dice.choice(scope))
            return ("whole", dice.randrange(3)) if dice.random() < 0.2 else ("name", dice.choice(scope + self.WORDS))
        if chance < 0.6:
            return ("use", self.term(dice, depth - 1, scope), self.term(dice, depth - 1, scope))
        name = dice.choice("xyz")
        inner = scope + [name] * 3
        if chance < 0.75:
            return ("given", name, self.term(dice, depth - 1, inner))
        if chance < 0.9:
            return ("let", ((name, self.term(dice, depth - 1, inner)),), self.term(dice, depth - 1, inner))
        arms = (("nil", (), self.term(dice, depth - 1, scope)), ("cons", ("h", "t"), self.term(dice, depth - 1, scope + ["h", "t"])))
        return ("match", self.term(dice, depth - 1, scope), arms)

    def right_terms(self, count, is_closed=False):
        dice = random.Random(3)
        found = []
        while len(found) < count:
            term = self.term(dice, 4, [])
            if len(list(places(term))) > 4 and fault_of(PROGRAM, term) is None:
                if not is_closed or not scheme_of(PROGRAM, term).variables:
                    found.append(term)
        return found

    def test_least_schemes(self):
        dice = random.Random(4)
        answers = []
        for term in self.right_terms(60):
            scheme = scheme_of(PROGRAM, term)
            for _ in range(8):
                told = self.near(dice, scheme)
                try:
                    program = PROGRAM.with_more(Definition("it", term, told=told))
                except (errors.Improper, errors.Misshapen):
                    continue
                found = within(PROGRAM, told, scheme)
                # Nothing is picked in these: else the told one might be right alone.
                if Program(*PROGRAM.declarations).with_more(Definition("it", term)).is_right:
                    self.assertEqual(program.is_right, found is not None, (term, told.kind, told.needs))
                    answers.append(found is not None)
        self.assertGreater(answers.count(True), 50)
        self.assertGreater(answers.count(False), 10)

    def near(self, dice, scheme):
        """A scheme like another one, or not."""
        kinds = [dice.choice([A, A, B, WHOLE, listed(A), pair(A, B), to(A, B)]) for _ in scheme.variables]
        kind, needs = scheme.at(*kinds)
        needs = [need for need in needs if dice.random() < 0.7]
        for name in variables_of(kind):
            if dice.random() < 0.5:
                needs.append((dice.choice(["same", "order", "words", "zeros"]), var(name)))
        return Scheme(kind, *needs)

    def test_papers_and_papers_of_lacking(self):
        dice = random.Random(5)
        kinds = [A, B, WHOLE, TEXT, TRUTH, listed(A), listed(listed(WHOLE)), pair(A, B), pair(B, listed(A)), to(A, B)]
        met = 0
        for _ in range(150):
            needs = [(dice.choice(["same", "order", "words", "zeros"]), dice.choice(kinds)) for _ in range(dice.randrange(4))]
            context = Context(PROGRAM, *needs)
            need = (dice.choice(["same", "order", "words", "zeros"]), dice.choice(kinds))
            paper, lacking = context.paper(need), context.lacking(need)
            self.assertEqual(paper is None, lacking is not None)
            self.assertEqual(context.meets(need), paper is not None)
            if paper is None:
                self.assertTrue(is_lacking(context, need, lacking))
            else:
                met += 1
                self.assertTrue(is_paper(context, need, paper))
                for other in itertools.islice(context.papers(need), 20):
                    self.assertTrue(is_paper(context, need, other))
        self.assertTrue(30 < met < 120)

    def test_runs_with_any_papers(self):
        dice = random.Random(6)
        endings = []
        for term in self.right_terms(25, is_closed=True):
            program = PROGRAM.with_more(Definition("it", term))
            self.assertEqual(program.faults, ())
            value = marked(program, ("definition", "it"))
            check_marked(program, ("definition", "it"), value)
            self.assertTrue(is_marked(program, ("definition", "it"), value))
            every = list(events(program, "it", limit=200))
            outcome = run(program, "it", limit=200)
            self.assertEqual(outcome.steps, len(every))
            if outcome.ending == "value":
                self.assertTrue(is_of(program, outcome.result, program.scheme("it").kind))
            endings.append(outcome.ending)
            for _ in range(2):
                rows = [(row, dice.choice(list(itertools.islice(ways(program, row), 5)))) for row in wheres(program)]
                machine = Compiled(program, *[row for row in rows if dice.random() < 0.5])
                self.assertEqual(machine.run("it", limit=200), outcome)
                self.assertEqual(list(machine.events("it", limit=200)), every)
        self.assertIn("value", endings)


if __name__ == "__main__":
    unittest.main()
