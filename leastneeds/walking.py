"""The kinds of the parts of a term, and the needs that it asks, as nodes of a graph.

Beside the kind of each part stands its *sketch*: the marked term as far as it is known by now, with nodes
for kinds, and needs where papers come to stand.
"""

from leastneeds.grouping import rings_of
from leastneeds.terms import free_names


class Letting:
    """A ring of a let, with what its names have in common."""

    def __init__(self, names, nodes):
        self.names = names
        # The kinds of the names, nodes.
        self.nodes = nodes
        # The needs and the variables of the schemes of the names, as they are found.
        self.asked = []
        self.generic = []
        # The sketches of the terms.
        self.sketches = []
        # The index that the first of its needs has in the context of its terms, as soon as it is known.
        self.start = 0


class Walk:
    """A walk through terms that have one graph."""

    def __init__(self, book, schemes, graph):
        self.book = book
        # The schemes of declared names; None for a definition that counts as a hole.
        self.schemes = schemes
        self.graph = graph
        # The needs that are asked by what was walked through, tuples (role, nodes).
        self.asked = []

    def walked(self, term, scope, around):
        """The node of the kind of a term, and its sketch.

        `scope` tells what names stand for that are bound around it, `around` is the tuple of the nodes of
        all names that have one kind there.
        """
        word = term[0]
        if word == "name":
            return self.walked_name(term[1], scope)
        if word == "use":
            return self.walked_use(term, scope, around)
        if word == "given":
            return self.walked_given(term, scope, around)
        if word == "let":
            return self.walked_let(term, scope, around)
        if word == "match":
            return self.walked_match(term, scope, around)
        if word == "hole":
            return self.graph.fresh(), term
        return self.graph.leaf(("con", word)), term

    def walked_name(self, name, scope):
        if name not in scope:
            return self.walked_declared(name)
        sort, what, node = scope[name]
        if sort == "let":
            return self.walked_copy(name, what, node)
        if sort == "own":
            return node, ("own", name, what)
        return node, (sort, name)

    def walked_declared(self, name):
        """A name that is bound by no function, arm or let."""
        scheme = self.schemes.at(name)
        if scheme is None:
            return self.graph.fresh(), ("hole",)
        by = {word: self.graph.fresh() for word in scheme.variables}
        needs = [(need[0], [self.graph.taken(kind, by) for kind in need[1:]]) for need in scheme.needs]
        self.asked.extend(needs)
        node = self.graph.taken(scheme.kind, by)
        if name not in self.book.members:
            return node, ("name", name, list(by.values()), needs)
        shared = self.book.roles[self.book.members[name]].variables
        own = [by[word] for word in scheme.variables if word not in shared]
        return node, ("member", name, [by[word] for word in shared], needs[0], own, needs[1:])

    def walked_copy(self, name, letting, node):
        """A name of a let whose ring is done, at kinds of its own."""
        by = {variable: self.graph.fresh() for variable in letting.generic}
        nodes = [node]
        for _, parts in letting.asked:
            nodes.extend(parts)
        copies = self.graph.copied(nodes, by)
        needs = []
        start = 1
        for role, parts in letting.asked:
            needs.append((role, copies[start : start + len(parts)]))
            start += len(parts)
        self.asked.extend(needs)
        return copies[0], ("name", name, list(by.values()), needs)

    def walked_use(self, term, scope, around):
        function, function_sketch = self.walked(term[1], scope, around)
        argument, argument_sketch = self.walked(term[2], scope, around)
        found = self.graph.fresh()
        self.graph.unify(function, self.graph.arrow(argument, found))
        return found, ("use", function_sketch, argument_sketch)

    def walked_given(self, term, scope, around):
        parameter = self.graph.fresh()
        inner = with_parameters(scope, [term[1]], [parameter])
        body, sketch = self.walked(term[2], inner, around + (parameter,))
        return self.graph.arrow(parameter, body), ("given", term[1], parameter, sketch)

    def walked_match(self, term, scope, around):
        subject, sketch = self.walked(term[1], scope, around)
        data = self.book.data[self.book.constructors[term[2][0][0]]]
        by = {word: self.graph.fresh() for word in data.variables}
        whole = self.graph.leaf(("con", data.name))
        for node in by.values():
            whole = self.graph.made(("apply", whole, node))
        self.graph.unify(subject, whole)
        found = self.graph.fresh()
        arms = []
        for constructor, names, body in term[2]:
            fields = [self.graph.taken(kind, by) for kind in self.book.fields_of(constructor)]
            inner = with_parameters(scope, names, fields)
            node, body_sketch = self.walked(body, inner, around + tuple(fields))
            self.graph.unify(node, found)
            arms.append((constructor, names, body_sketch))
        return found, ("match", sketch, tuple(arms))

    def walked_let(self, term, scope, around):
        terms = dict(term[1])
        uses = {name: [other for other in free_names(terms[name]) if other in terms] for name in terms}
        inner = {name: scope[name] for name in scope}
        lettings = []
        for ring in rings_of(list(terms), uses):
            letting = self.walked_ring(ring, terms, inner, around)
            for name, node in zip(letting.names, letting.nodes):
                inner[name] = ("let", letting, node)
            lettings.append(letting)
        body, sketch = self.walked(term[2], inner, around)
        return body, ("let", lettings, sketch)

    def walked_ring(self, names, terms, scope, around):
        """A ring of a let, with the schemes of its names."""
        nodes = [self.graph.fresh() for _ in names]
        letting = Letting(names, nodes)
        inner = {name: scope[name] for name in scope}
        for name, node in zip(names, nodes):
            inner[name] = ("own", letting, node)
        outer = self.asked
        self.asked = []
        for name, node in zip(names, nodes):
            found, sketch = self.walked(terms[name], inner, around + tuple(nodes))
            self.graph.unify(node, found)
            letting.sketches.append(sketch)
        letting.asked = different_needs(self.graph, self.asked)
        self.asked = outer
        every = nodes + nodes_of(letting.asked)
        fixed = {node: True for node in self.graph.free_nodes(around)}
        letting.generic = [node for node in self.graph.free_nodes(every) if node not in fixed]
        return letting


def with_parameters(scope, names, nodes):
    """The scope in which names of a function or an arm are bound."""
    found = {name: scope[name] for name in scope}
    for name, node in zip(names, nodes):
        found[name] = ("parameter", None, node)
    return found


def nodes_of(needs):
    """The nodes of needs, tuples (role, nodes), a list."""
    return [node for _, nodes in needs for node in nodes]


def different_needs(graph, needs):
    """The needs with nodes, each once, in the order in which they stand first, a list."""
    numbers = graph.numbers_of(nodes_of(needs))
    found = {}
    start = 0
    for need in needs:
        size = len(need[1])
        found.setdefault((need[0],) + tuple(numbers[start : start + size]), need)
        start += size
    return list(found.values())
