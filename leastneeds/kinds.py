"""Kinds: trees of variables, constructors and applications."""

from leastneeds.names import is_name


def var(name):
    """The variable with this name."""
    return ("var", name)


def con(name, *parts):
    """The constructor with this name, with these parts."""
    return applied(("con", name), parts)


def applied(head, parts):
    """The kind `head` with these parts behind it."""
    found = head
    for part in parts:
        found = ("apply", found, part)
    return found


def to(*kinds):
    """The kind of functions from all these kinds but the last one to the last one."""
    found = kinds[-1]
    for kind in reversed(kinds[:-1]):
        found = con("to", kind, found)
    return found


def is_kind(value):
    """Whether any value is a kind."""
    # The value may be nested deeper than a kind, so nothing calls itself here.
    waiting = [value]
    while waiting:
        part = waiting.pop()
        if not isinstance(part, tuple):
            return False
        if len(part) == 3 and part[0] == "apply":
            waiting.append(part[1])
            waiting.append(part[2])
        elif not is_leaf(part):
            return False
    return True


def is_leaf(value):
    """Whether a tuple of any values is a variable or a constructor."""
    return len(value) == 2 and (value[0] == "var" or value[0] == "con") and is_name(value[1])


def leaves_of(*kinds):
    """The variables and constructors of kinds, from left to right, a list."""
    found = []
    waiting = [kind for kind in reversed(kinds)]
    while waiting:
        part = waiting.pop()
        if part[0] == "apply":
            waiting.append(part[2])
            waiting.append(part[1])
        else:
            found.append(part)
    return found


def size_of(*kinds):
    """How many variables and constructors stand in the kinds."""
    return len(leaves_of(*kinds))


def variables_of(*kinds):
    """The names of the variables of the kinds, each once, in the order in which they stand there."""
    return tuple({leaf[1]: True for leaf in leaves_of(*kinds) if leaf[0] == "var"})


def put(kind, by):
    """The kind in which the variables that are keys of `by` are replaced, all at once."""
    if kind[0] == "apply":
        return ("apply", put(kind[1], by), put(kind[2], by))
    if kind[0] == "var":
        return by.get(kind[1], kind)
    return kind


def kind_key(kind):
    """A string that only this kind has."""
    if kind[0] == "apply":
        return "@" + kind_key(kind[1]) + kind_key(kind[2])
    if kind[0] == "var":
        return "'" + kind[1] + " "
    return kind[1] + " "


def spine_of(kind):
    """What a kind begins with, and the list of the parts behind it."""
    parts = []
    head = kind
    while head[0] == "apply":
        parts = [head[2]] + parts
        head = head[1]
    return head, parts


def is_arrow(kind):
    """Whether a kind is written with `->` and nothing behind it."""
    head, parts = spine_of(kind)
    return head == ("con", "to") and len(parts) == 2


def text_of(kind):
    """The text of a kind, pieces with single spaces between them."""
    head, parts = spine_of(kind)
    if head == ("con", "to") and len(parts) >= 2:
        first = arrow_text(parts[0], parts[1])
        if len(parts) == 2:
            return first
        return " ".join(["( " + first + " )"] + [part_text(part) for part in parts[2:]])
    sign = "'" if head[0] == "var" else ""
    return " ".join([sign + head[1]] + [part_text(part) for part in parts])


def arrow_text(left, right):
    """The text of the kind `left -> right`."""
    side = text_of(left)
    if is_arrow(left):
        side = "( " + side + " )"
    return side + " -> " + text_of(right)


def part_text(kind):
    """The text of a kind as a part behind something."""
    if kind[0] == "apply":
        return "( " + text_of(kind) + " )"
    return text_of(kind)
