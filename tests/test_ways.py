"""Ways: point 62."""

import itertools
import unittest

from leastneeds.declarations import Definition
from leastneeds.errors import Faulty, UnknownName
from leastneeds.kinds import to
from leastneeds.looking import is_marked
from leastneeds.marked import marked
from leastneeds.program import Program
from leastneeds.reader import read_term
from leastneeds.schemes import Scheme
from leastneeds.search import Context
from leastneeds.ways import ways

from marks import wheres
from samples import A, TRUTH, listed

BASE = "data list 'a = nil | cons 'a ( list 'a )\nderive slist : same list\nderive olist : order list"


def based(*lines):
    return Program.read("\n".join((BASE,) + lines))


def where(name):
    return ("definition", name)


def papers_in(value):
    """The papers of a marked term, from left to right."""
    if value[0] == "name":
        return list(value[3])
    if value[0] == "member":
        return [value[3], *value[5]]
    if value[0] == "use":
        return papers_in(value[1]) + papers_in(value[2])
    if value[0] == "given":
        return papers_in(value[3])
    if value[0] == "match":
        return papers_in(value[1]) + [paper for arm in value[2] for paper in papers_in(arm[2])]
    if value[0] == "let":
        return [paper for row in value[1] for paper in papers_in(row[4])] + papers_in(value[2])
    return []


class TestWays(unittest.TestCase):
    def ways_of(self, program, name="it"):
        found = list(ways(program, where(name)))
        self.assertEqual(found[0], marked(program, where(name)))
        self.assertEqual(len({repr(row) for row in found}), len(found))
        for row in found:
            self.assertTrue(is_marked(program, where(name), row))
        return found

    def test_one_way(self):
        program = based("define it = given x . alike x x", "define at = 7", "define two = cons 1 nil")
        for name in ("it", "at", "two"):
            self.assertEqual(len(self.ways_of(program, name)), 1)

    def test_one_paper_with_several_ways(self):
        program = based("define it : 'a -> 'a -> truth if same 'a , order 'a = alike")
        told = [("given", 0, ()), ("given", 1, (("above", 0),))]
        self.assertEqual([papers_in(row) for row in self.ways_of(program)], [[paper] for paper in told])
        program = based("define it : list 'a -> list 'a -> truth if order 'a , same ( list 'a ) , order ( list 'a ) = alike")
        context = Context(program, ("order", A), ("same", listed(A)), ("order", listed(A)))
        papers = list(context.papers(("same", listed(A))))
        self.assertGreater(len(papers), 3)
        self.assertEqual([papers_in(row) for row in self.ways_of(program)], [[paper] for paper in papers])

    def test_the_last_ones_change_fastest(self):
        program = based("define it : 'a -> truth if same 'a , order 'a = given x . match alike x x | no = atmost x x | yes = alike x x end")
        one, other = ("given", 0, ()), ("given", 1, (("above", 0),))
        order = ("given", 1, ())
        rows = [[one, order, one], [one, order, other], [other, order, one], [other, order, other]]
        self.assertEqual([papers_in(row) for row in self.ways_of(program)], rows)

    def test_products_of_all_papers(self):
        lines = (
            "role pick 'a above same 'a",
            "member picked : 'a -> 'b -> text if words 'b , same 'a = given x . given y . shown y",
            "case pickw : pick whole",
            "as picked = given x . given y . shown y",
            "define it : 'a -> text if pick 'a , same 'a , order 'a = given x . picked x ( alike x x )",
        )
        program = based(*lines)
        needs = (("pick", A), ("words", TRUTH), ("same", A), ("same", A))
        context = Context(program, ("pick", A), ("same", A), ("order", A))
        told = [list(row) for row in itertools.product(*[list(context.papers(need)) for need in needs])]
        self.assertEqual([papers_in(row) for row in self.ways_of(program)], told)
        self.assertEqual(len(told), 9)

    def test_within_lets(self):
        text = "define it = given x . let p = given y . match alike y y | no = atmost y y | yes = p y end in p x"
        program = based(text)
        # The let has the needs that its terms ask, same 'b and order 'b; its own name has them as they are.
        found = [papers_in(row) for row in self.ways_of(program)]
        given = [("given", 1, ()), ("given", 2, (("above", 0),))]
        own = [("given", 1, ()), ("given", 2, ())]
        outer = [("given", 0, (("above", 0),)), ("given", 0, ())]
        self.assertEqual(found, [[paper, own[1], *own, *outer] for paper in given])

    def test_names_of_the_own_ring(self):
        program = based("define it : 'a -> truth if same 'a , order 'a = given x . match alike x x | no = it x | yes = it x end")
        # A told one may use itself by any papers.
        self.assertEqual(len(self.ways_of(program)), 8)
        program = based("define it = given x . match alike x x | no = it x | yes = no end")
        self.assertEqual(len(self.ways_of(program)), 1)
        program = based("define it = given x . match alike x x | no = at x | yes = no end", "define at = given x . it x")
        self.assertEqual(len(self.ways_of(program)), 1)
        self.assertEqual(len(self.ways_of(program, "at")), 1)

    def test_another_name_of_the_ring(self):
        # The let has the need of the ring once more, so what is used in its term has two papers for it.
        program = based(
            "define it = given x . let p = given y . match alike x x | no = at x | yes = it x end in p 1",
            "define at = given x . it x",
        )
        value = marked(program, where("it"))
        self.assertEqual(value[3][1][0][2], (("same", A),))
        one, other = ("given", 0, ()), ("given", 1, ())
        found = [papers_in(row) for row in self.ways_of(program)]
        self.assertEqual(found, [[paper, then, one, one] for paper in (one, other) for then in (one, other)])
        self.assertEqual(len(self.ways_of(program, "at")), 1)

    def test_members_and_defaults(self):
        program = based(
            "role odd 'a above same 'a , order 'a",
            "member odds : 'a -> truth = given x . alike x x",
            "case oddl : odd ( list 'a ) if odd 'a , same 'a",
            "as odds = given x . alike x x",
        )
        row = ("role", "odd", "odds")
        found = list(ways(program, row))
        steps = [("above", 0)], [("above", 1), ("above", 0)]
        self.assertEqual([papers_in(value) for value in found], [[("given", 0, tuple(path))] for path in steps])
        row = ("case", "oddl", "odds")
        found = list(ways(program, row))
        inner = [("given", 1, ()), ("given", 0, (("above", 0),)), ("given", 0, (("above", 1), ("above", 0)))]
        self.assertEqual([papers_in(value) for value in found], [[("case", "slist", (paper,))] for paper in inner])
        for value in found:
            self.assertTrue(is_marked(program, row, value))

    def test_more_than_can_be_told(self):
        term = "alike x x"
        for _ in range(3):
            term = f"match alike ( cons x nil ) nil | no = {term} | yes = {term} end"
        told = " , ".join(["same 'a"] * 40)
        program = based(f"define it : 'a -> truth if {told} = given x . {term}")
        found = ways(program, where("it"))
        first = list(itertools.islice(found, 100))
        self.assertEqual(first[0], marked(program, where("it")))
        self.assertEqual([papers_in(row)[-1] for row in first[:40]], [("given", k, ()) for k in range(40)])
        self.assertEqual([papers_in(row)[-2] for row in first[::40]], [("given", k, ()) for k in range(3)])
        self.assertTrue(all(is_marked(program, where("it"), row) for row in first))

    def test_first_ones_ahead_of_endless_others(self):
        kinds = [A]
        for _ in range(6):
            kinds.append(listed(kinds[-1]))
        needs = [(role, kind) for role in ("order", "same") for kind in kinds]
        term = read_term("given x . alike ( cons x nil ) ( cons x nil )")
        told = Scheme(to(kinds[5], TRUTH), *needs)
        program = based().with_more(Definition("it", term, told=told))
        found = list(itertools.islice(ways(program, where("it")), 1000))
        context = Context(program, *needs)
        self.assertEqual(len(found), len(list(context.papers(("same", kinds[6])))))
        self.assertEqual(len({repr(row) for row in found}), len(found))

    def test_more_papers_than_can_be_told(self):
        # From the lowest role 2 ** 25 paths lead to the highest one.
        rows = ["role raa 'a", "member maa : 'a -> 'a", "case caa : raa whole", "as maa = given x . x"]
        word = "raa"
        for k in range(25):
            letter = "abcdefghijklmnopqrstuvwxyz"[k]
            for side in "xy":
                rows += [f"role {side}{letter} 'a above {word} 'a", f"member m{side}{letter} : 'a"]
                rows += [f"case c{side}{letter} : {side}{letter} whole", f"as m{side}{letter} = 1"]
            word = "r" + letter * 3
            rows += [f"role {word} 'a above x{letter} 'a , y{letter} 'a", f"member m{letter * 3} : 'a"]
            rows += [f"case c{letter * 3} : {word} whole", f"as m{letter * 3} = 1"]
        program = based(*rows, f"define it : 'a -> 'a if {word} 'a = maa")
        found = list(itertools.islice(ways(program, where("it")), 5))
        paths = [papers_in(row)[0][2] for row in found]
        self.assertEqual([len(path) for path in paths], [50] * 5)
        self.assertEqual(paths[0], (("above", 0),) * 50)
        self.assertEqual(paths[1], (("above", 0),) * 48 + (("above", 1), ("above", 0)))
        self.assertEqual(sorted(paths), paths)

    def test_every_where(self):
        program = based("define it = given x . alike x x")
        for row in wheres(program):
            self.assertEqual(next(iter(ways(program, row))), marked(program, row))

    def test_errors_as_the_iteration_begins(self):
        bad = based("define ok = 1", "define it = plus yes", "define at = 1 2")
        for value in (where("ok"), where("zzz"), None):
            found = ways(bad, value)
            with self.assertRaises(Faulty) as caught:
                next(found)
            self.assertEqual(caught.exception.where, where("it"))
        program = based("define it = 1")
        for value in (where("zzz"), "it", None, True, 7, [], {}, ("case", "slist"), ("role", "same", "alike"), program, ["definition", "it"]):
            found = ways(program, value)
            with self.assertRaises(UnknownName) as caught:
                next(found)
            self.assertIs(caught.exception.value, value)
        self.assertEqual(list(ways(program=program, where=where("it"))), [("whole", 1)])


if __name__ == "__main__":
    unittest.main()
