"""Kinds that are not known yet: nodes that are made the same, step by step.

Parts of kinds are shared here, so kinds that would be very large as trees stay small.
"""

from leastneeds.kinds import var


class NoKinds(ValueError):
    """There are no kinds that are asked for."""


class Graph:
    """Nodes, told by their numbers: free ones, leaves, and applications of nodes."""

    def __init__(self):
        # The node that each one was made the same with, itself at first.
        self.links = []
        # None for a free node, a kind for a leaf, ("apply", node, node) for an application.
        self.forms = []
        self.leaves = {}

    def made(self, form):
        """A new node of this form."""
        self.links.append(len(self.links))
        self.forms.append(form)
        return len(self.links) - 1

    def fresh(self):
        """A new free node."""
        return self.made(None)

    def leaf(self, kind):
        """The node of a constructor, or of a variable that stands for itself alone."""
        if kind not in self.leaves:
            self.leaves[kind] = self.made(kind)
        return self.leaves[kind]

    def root(self, node):
        """The node that stands for all that are the same as this one."""
        while self.links[node] != node:
            self.links[node] = self.links[self.links[node]]
            node = self.links[node]
        return node

    def taken(self, kind, by):
        """The node of a kind, with the nodes of a dict for its variables."""
        if kind[0] == "apply":
            return self.made(("apply", self.taken(kind[1], by), self.taken(kind[2], by)))
        if kind[0] == "var" and kind[1] in by:
            return by[kind[1]]
        return self.leaf(kind)

    def arrow(self, one, other):
        """The node of the functions from one to the other."""
        return self.made(("apply", self.made(("apply", self.leaf(("con", "to")), one)), other))

    def unify(self, one, other):
        """Make two nodes the same; NoKinds if their leaves differ."""
        waiting = [(one, other)]
        while waiting:
            one, other = waiting.pop()
            one = self.root(one)
            other = self.root(other)
            form = self.forms[one]
            if one == other:
                continue
            if form is not None and self.forms[other] is None:
                one, other = other, one
            elif form is not None:
                waiting.extend(pairs_in(form, self.forms[other]))
            self.links[one] = other

    def ordered(self, nodes):
        """All that stands in nodes, each once, parts ahead of what they stand in; NoKinds for a ring."""
        found = []
        states = {}
        waiting = [(node, False) for node in reversed(nodes)]
        while waiting:
            node, is_done = waiting.pop()
            node = self.root(node)
            if is_done:
                states[node] = "done"
                found.append(node)
            elif states.get(node) == "begun":
                raise NoKinds()
            elif node not in states:
                states[node] = "begun"
                waiting.append((node, True))
                form = self.forms[node]
                if form is not None and form[0] == "apply":
                    waiting.append((form[2], False))
                    waiting.append((form[1], False))
        return found

    def free_nodes(self, nodes):
        """The free nodes that stand in nodes, each once, in the order in which they stand there first."""
        return [node for node in self.ordered(nodes) if self.forms[node] is None]

    def sizes_of(self, nodes):
        """The sizes of the kinds of nodes, a list."""
        found = {}
        for node in self.ordered(nodes):
            form = self.forms[node]
            if form is not None and form[0] == "apply":
                found[node] = found[self.root(form[1])] + found[self.root(form[2])]
            else:
                found[node] = 1
        return [found[self.root(node)] for node in nodes]

    def kinds_of(self, nodes, by):
        """The kinds of nodes, a list; free nodes have the kinds of a dict, or variables of their numbers."""
        found = {}
        for node in self.ordered(nodes):
            form = self.forms[node]
            if form is None:
                found[node] = by[node] if node in by else var(str(node))
            elif form[0] == "apply":
                found[node] = ("apply", found[self.root(form[1])], found[self.root(form[2])])
            else:
                found[node] = form
        return [found[self.root(node)] for node in nodes]

    def numbers_of(self, nodes):
        """Numbers for nodes, a list: nodes with the same kind have the same number."""
        found = {}
        numbers = {}
        for node in self.ordered(nodes):
            form = self.forms[node]
            key = node
            if form is not None and form[0] == "apply":
                key = (found[self.root(form[1])], found[self.root(form[2])])
            elif form is not None:
                key = form
            found[node] = numbers.setdefault(key, len(numbers))
        return [found[self.root(node)] for node in nodes]

    def copied(self, nodes, by):
        """The nodes, a list, with the free nodes that are keys of a dict replaced by those there."""
        found = {}
        for node in self.ordered(nodes):
            form = self.forms[node]
            found[node] = by.get(node, node)
            if form is not None and form[0] == "apply":
                left = found[self.root(form[1])]
                right = found[self.root(form[2])]
                if (left, right) != (self.root(form[1]), self.root(form[2])):
                    found[node] = self.made(("apply", left, right))
        return [found[self.root(node)] for node in nodes]


def pairs_in(form, other):
    """The pairs of nodes that have to be the same if two forms are, a list; NoKinds if they can't be."""
    if form[0] == "apply" and other[0] == "apply":
        return [(form[2], other[2]), (form[1], other[1])]
    if form != other:
        raise NoKinds()
    return []
