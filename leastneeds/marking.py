"""Making marked terms from the sketches of a study."""

from leastneeds.charts import chart_of, first_paper, plan_of
from leastneeds.kinds import var, variables_of
from leastneeds.names import first_names, names_beside
from leastneeds.needs import kinds_of, put_needs


class Marker:
    """Makes the marked term of one of the terms of a study that is finished."""

    def __init__(self, study, index):
        self.book = study.book
        self.study = study
        self.index = index
        # The kinds of free nodes: variables with names of their own, first those of the scheme.
        self.by = {}
        self.used_names = list(study.fixed)
        needs = study.given
        if study.told is None:
            variables = scheme_nodes(study, index)
            for node, name in zip(variables, first_names(len(variables))):
                self.by[node] = var(name)
                self.used_names.append(name)
            needs = put_needs(study.needs, {str(node): self.by[node] for node in variables})
        self.needs = list(needs)

    def marked_term(self):
        """The marked term."""
        return self.marks(self.study.sketches[self.index], context_of(self.book, self.needs))

    def named_kinds(self, nodes):
        """The kinds of nodes, a tuple; free nodes that have no name yet get one."""
        new = [node for node in self.study.graph.free_nodes(nodes) if node not in self.by]
        names = names_beside(len(new), self.used_names)
        for node, name in zip(new, names):
            self.by[node] = var(name)
            self.used_names.append(name)
        return tuple(self.study.graph.kinds_of(nodes, self.by))

    def named_need(self, need):
        """The need of a role and nodes."""
        return (need[0],) + self.named_kinds(need[1])

    def marks(self, sketch, given):
        """The marked term of a sketch; `given` is the context there, a list of needs and its chart."""
        word = sketch[0]
        if word == "parameter":
            return ("name", sketch[1], (), ())
        if word == "name":
            return ("name", sketch[1], self.named_kinds(sketch[2]), self.papers_for(sketch[3], given))
        if word == "member":
            return self.member_marks(sketch, given)
        if word == "own":
            return own_marks(sketch[1], self.named_kinds(sketch[2].generic), sketch[2].start, len(sketch[2].asked))
        if word == "ring":
            return self.ring_name_marks(sketch[1], given)
        if word == "use":
            return ("use", self.marks(sketch[1], given), self.marks(sketch[2], given))
        if word == "given":
            return ("given", sketch[1], self.named_kinds([sketch[2]])[0], self.marks(sketch[3], given))
        if word == "match":
            subject = self.marks(sketch[1], given)
            arms = [(row[0], row[1], self.marks(row[2], given)) for row in sketch[2]]
            return ("match", subject, tuple(arms))
        if word == "let":
            return self.let_marks(sketch[1], sketch[2], given)
        return sketch

    def ring_name_marks(self, name, given):
        """The marks of a definition of the ring: only those of the own one have no other papers."""
        index = [row[0] for row in self.study.rows].index(name)
        kinds = self.named_kinds(scheme_nodes(self.study, index))
        if index == self.index:
            return own_marks(name, kinds, 0, len(self.needs))
        plans = [plan_of(self.book, need) for need in self.needs]
        return ("name", name, kinds, tuple([self.paper_for(plan, given) for plan in plans]))

    def member_marks(self, sketch, given):
        _, name, shared, need, own, needs = sketch
        paper = self.papers_for([need], given)[0]
        return ("member", name, self.named_kinds(shared), paper, self.named_kinds(own), self.papers_for(needs, given))

    def let_marks(self, lettings, body, given):
        """The marked term of a let: its rings stand within one another."""
        rings = [self.ring_marks(letting, given) for letting in lettings]
        found = self.marks(body, given)
        for rows in reversed(rings):
            found = ("let", rows, found)
        return found

    def ring_marks(self, letting, given):
        """The names of a ring of a let with their marks and terms, a tuple."""
        variables = tuple([kind[1] for kind in self.named_kinds(letting.generic)])
        needs = tuple([self.named_need(need) for need in letting.asked])
        kinds = self.named_kinds(letting.nodes)
        letting.start = len(given[0])
        inner = context_of(self.book, given[0] + list(needs))
        found = []
        for name, kind, sketch in zip(letting.names, kinds, letting.sketches):
            found.append((name, variables, needs, kind, self.marks(sketch, inner)))
        return tuple(found)

    def papers_for(self, needs, given):
        """The first papers for needs with nodes, a tuple."""
        plans = [plan_of(self.book, self.named_need(need)) for need in needs]
        return tuple([self.paper_for(plan, given) for plan in plans])

    def paper_for(self, plan, given):
        """What stands where a paper for the need of a plan is due."""
        return first_paper(plan, given[1])


class SlotMarker(Marker):
    """As Marker, but where papers are due stand slots: ("slot", k) with the index of each one.

    `slots` has for each one the needs of the context there, their chart, the plan of its need, and the
    first paper.
    """

    def __init__(self, study, index):
        Marker.__init__(self, study, index)
        self.slots = []

    def paper_for(self, plan, given):
        self.slots.append((given[0], given[1], plan, first_paper(plan, given[1])))
        return ("slot", len(self.slots) - 1)


def scheme_nodes(study, index):
    """The free nodes that are the variables of the scheme of one term of a study, in their order."""
    kinds = study.graph.kinds_of([study.nodes[index]], {}) + kinds_of(study.needs)
    return [int(name) for name in variables_of(*kinds)]


def own_marks(name, kinds, start, many):
    """The marks of a name in its own ring, whose needs begin at an index of the context."""
    return ("name", name, kinds, tuple([("given", start + k, ()) for k in range(many)]))


def context_of(book, needs):
    """A context as `marks` takes it."""
    return needs, chart_of(book, needs)
