"""What the terms of a ring come to have: their kinds, and the needs that they ask."""

from leastneeds.charts import are_met
from leastneeds.graph import Graph, NoKinds
from leastneeds.improvement import improved, is_hopeless, known_by, least_of
from leastneeds.kinds import put, size_of, spine_of, var, variables_of
from leastneeds.names import first_names
from leastneeds.needs import different, kinds_of, put_needs, variables_in
from leastneeds.schemes import Scheme
from leastneeds.walking import Walk, nodes_of

# A need with a larger kind is not looked at: what has it counts as great.
LARGEST = 20000

# The largest size of the scheme of a definition.
MOST = 400


class Study:
    """A look at the terms of a ring, or at one term with a told scheme."""

    def __init__(self, book, schemes, rows, told):
        self.book = book
        # Tuples (name, term); names by which no term of the ring uses the other are "".
        self.rows = rows
        # None, or the kind and the needs that are told for the one term.
        self.told = told
        self.given = [] if told is None else list(told[1])
        self.fixed = [] if told is None else list(variables_of(told[0])) + list(variables_in(told[1]))
        self.graph = Graph()
        # The kinds of the terms, nodes, and their sketches.
        self.nodes = []
        self.sketches = []
        # What is wrong: "unfit", "lacking" or "great".
        self.word = None
        # The needs that are asked, each once, later those of the least context behind picks.
        self.needs = []
        try:
            self.look(schemes)
        except NoKinds:
            self.word = "unfit"

    def look(self, schemes):
        """Find the kinds and the needs, or what is wrong; NoKinds if there are no kinds."""
        walk = Walk(self.book, schemes, self.graph)
        for name, _ in self.rows:
            self.nodes.append(self.first_node())
        scope = {row[0]: ("ring", None, node) for row, node in zip(self.rows, self.nodes)}
        for row, node in zip(self.rows, self.nodes):
            found, sketch = walk.walked(row[1], scope, tuple(self.nodes))
            self.graph.unify(node, found)
            self.sketches.append(sketch)
        self.graph.ordered(list(range(len(self.graph.links))))
        if max(self.graph.sizes_of(nodes_of(walk.asked)), default=0) > LARGEST:
            self.word = "great"
            return
        self.improve(self.asked_needs(walk.asked))
        if any([is_hopeless(self.book, self.given, need, self.fixed) for need in self.needs]):
            self.word = "lacking"

    def first_node(self):
        """The node of the kind of a term before it is looked at."""
        if self.told is None:
            return self.graph.fresh()
        return self.graph.taken(self.told[0], {})

    def asked_needs(self, asked):
        """The needs of tuples (role, nodes), each once, a list."""
        kinds = self.graph.kinds_of(nodes_of(asked), {})
        found = []
        start = 0
        for role, nodes in asked:
            found.append((role,) + tuple(kinds[start : start + len(nodes)]))
            start += len(nodes)
        return different(found)

    def improve(self, needs):
        """Make the needs improved beside the given ones; NoKinds if they can't be."""
        by = improved(self.book, needs, self.given, self.fixed)
        if by is None:
            raise NoKinds()
        self.put_in(by)
        self.needs = different(put_needs(needs, by))

    def put_in(self, by):
        """Put kinds in for free nodes, which a dict tells by the variables of their numbers."""
        if len(by) == 0:
            return
        nodes = {str(node): node for node in self.graph.free_nodes(list(range(len(self.graph.links))))}
        for name in by:
            self.graph.unify(nodes[name], self.graph.taken(by[name], nodes))

    def reduce(self, picks):
        """Bring the needs down to the least context, with picks where they are due."""
        needs = least_of(self.book, self.needs)
        by = picked(self.book, picks, needs, self.known_names(self.nodes, needs))
        self.put_in(by)
        self.needs = [need for need in needs if not any([name in by for name in variables_in([need])])]

    def known_names(self, nodes, needs):
        """The variables that are known by the kinds of nodes and needs, or by what is told, a list."""
        if self.told is not None:
            return known_by(self.book, [self.told[0]], self.given)
        variables = [var(str(node)) for node in self.graph.free_nodes(nodes)]
        return known_by(self.book, variables, needs)

    def unclear_role(self, index):
        """The role of the first need with a variable that is not known by one kind, or None."""
        known = self.known_names([self.nodes[index]], self.needs)
        for need in self.needs:
            if not all([name in known for name in variables_in([need])]):
                return need[0]
        return None

    def is_great(self, index):
        """Whether the scheme of one term is too large."""
        kinds = kinds_of(self.needs if self.told is None else self.given)
        return self.graph.sizes_of([self.nodes[index]])[0] + size_of(*kinds) > MOST

    def scheme_at(self, index):
        """The scheme of one term, which is not great, with the variables a, b, .. in their order."""
        kind = self.graph.kinds_of([self.nodes[index]], {})[0]
        every = [kind] + kinds_of(self.needs)
        variables = variables_of(*every)
        by = {name: var(word) for name, word in zip(variables, first_names(len(variables)))}
        return Scheme.under(put(kind, by), put_needs(self.needs, by))


def picked(book, picks, needs, known):
    """The picks for variables that are not known, a dict."""
    found = {}
    for name in variables_in(needs):
        if name in known:
            continue
        having = [need for need in needs if name in variables_in([need])]
        if not all([variables_in([need]) == (name,) for need in having]) or shape_in(book, having[0], name) != 0:
            continue
        for pick in picks:
            if are_met(book, (), put_needs(having, {name: pick})):
                found[name] = pick
                break
    return found


def shape_in(book, need, name):
    """The shape of a variable that stands in a need."""
    waiting = list(zip(need[1:], book.shapes[need[0]]))
    while waiting:
        kind, shape = waiting.pop()
        head, parts = spine_of(kind)
        if head == ("var", name):
            return shape + len(parts)
        waiting.extend([(part, 0) for part in parts])
    return None
