"""Finding the least shapes of the places of all roles."""

from leastneeds.declarations import Case, Data, Definition, Role
from leastneeds.kinds import spine_of

# The node of what is whole: its shape is 0.
WHOLE = ("whole",)


class Shaping:
    """Shapes that are not known yet, as nodes, with their differences."""

    def __init__(self, book):
        self.book = book
        # A node that is known by another one, with what its shape has more than that one.
        self.above = {("place", name, 0): (WHOLE, 0) for name in ("same", "order", "words")}
        # The least shape beside a node among those that are known by it.
        self.lows = {}

    def root_of(self, node):
        """The node by which this one is known, and how much more its shape is."""
        more = 0
        while node in self.above:
            node, step = self.above[node]
            more += step
        return node, more

    def relate(self, node, other, more):
        """Make the shape of a node so much more than that of the other; whether this can be."""
        root, above = self.root_of(node)
        other_root, other_above = self.root_of(other)
        step = other_above + more - above
        if root == other_root:
            return step == 0
        self.above[root] = (other_root, step)
        low = self.lows.get(root, 0) + step
        self.lows[other_root] = min(self.lows.get(other_root, 0), low)
        whole_root, whole_above = self.root_of(WHOLE)
        return self.lows.get(whole_root, 0) >= whole_above

    def least(self, node):
        """The least shape of a node."""
        # Of what is known by WHOLE nothing has less than WHOLE itself, so the least shape is 0 there, too.
        root, more = self.root_of(node)
        return more - self.lows.get(root, 0)

    def take_kind(self, kind, node, owner):
        """Let a kind have the shape of a node; whether this can be."""
        waiting = [(kind, node)]
        while waiting:
            part, place = waiting.pop()
            head, parts = spine_of(part)
            waiting.extend([(inner, WHOLE) for inner in parts])
            if head[0] == "con":
                fine = self.relate(place, WHOLE, self.book.lacks[head[1]] - len(parts))
            else:
                fine = self.relate(owner.node_of(head[1]), place, len(parts))
            if not fine:
                return False
        return True

    def take_need(self, need, owner):
        """Let the kinds of a need have the shapes of the places of its role; whether this can be."""
        if len(need) - 1 != len(self.book.roles[need[0]].variables):
            return False
        return all([self.take_kind(kind, ("place", need[0], k), owner) for k, kind in enumerate(need[1:])])

    def take_scheme(self, kind, needs, owner):
        """Let a kind be whole, and needs have their shapes; whether this can be."""
        if not self.take_kind(kind, WHOLE, owner):
            return False
        return all([self.take_need(need, owner) for need in needs])

    def take(self, index, declaration):
        """Take what the declaration with this index tells of shapes; whether there are any then."""
        owner = Owner(("own", index), {})
        if isinstance(declaration, Data):
            return self.take_data(declaration)
        if isinstance(declaration, Role):
            return self.take_role(index, declaration)
        if isinstance(declaration, Case):
            head = (declaration.role,) + declaration.kinds
            return all([self.take_need(need, owner) for need in (head,) + declaration.needs])
        if isinstance(declaration, Definition) and declaration.told is not None:
            return self.take_scheme(declaration.told.kind, declaration.told.needs, owner)
        return True

    def take_data(self, data):
        owner = Owner(("data",), {name: WHOLE for name in data.variables})
        fields = [kind for _, kinds in data.constructors for kind in kinds]
        return all([self.take_kind(kind, WHOLE, owner) for kind in fields])

    def take_role(self, index, role):
        shared = {name: ("place", role.name, k) for k, name in enumerate(role.variables)}
        owner = Owner(("own", index), shared)
        if not all([self.take_need(need, owner) for need in role.above]):
            return False
        for name, kind, needs, _ in role.members:
            if not self.take_scheme(kind, needs, Owner(("member", index, name), shared)):
                return False
        return True


class Owner:
    """Tells the nodes of the variables of a declaration, or of a member."""

    def __init__(self, key, shared):
        self.key = key
        self.shared = shared

    def node_of(self, name):
        return self.shared.get(name, self.key + (name,))
