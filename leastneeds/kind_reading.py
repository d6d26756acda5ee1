"""Reading kinds, needs and schemes from lines."""

from leastneeds.kinds import applied, is_arrow, to, var

# So many parentheses may be open at once in a kind.
DEEPEST = 10


def kind_from(line, depth=0):
    """The kind that a line goes on with; `depth` tells how many parentheses are open."""
    sides = [side_from(line, depth)]
    while line.is_mark("->"):
        line.take()
        sides.append(side_from(line, depth))
    return to(*sides)


def side_from(line, depth):
    """A side of an arrow, or a kind that is none."""
    most = None
    if line.is_mark("("):
        head = arrow_from(line, depth)
    elif is_leaf_next(line):
        head = leaf_from(line)
        # With two parts or more it would be written as an arrow.
        most = 1 if head == ("con", "to") else None
    else:
        line.fail()
    parts = []
    while is_part_next(line) and (most is None or len(parts) < most):
        parts.append(part_from(line, depth))
    if is_arrow(head) and len(parts) == 0 and not line.is_mark("->"):
        line.fail()
    return applied(head, parts)


def arrow_from(line, depth):
    """An arrow in parentheses."""
    kind = kind_within(line, depth)
    if not is_arrow(kind):
        line.fail()
    line.take_mark(")")
    return kind


def part_from(line, depth=0):
    """A kind as it is written behind what it is a part of."""
    if line.is_mark("("):
        kind = kind_within(line, depth)
        if kind[0] != "apply":
            line.fail()
        line.take_mark(")")
        return kind
    if not is_leaf_next(line):
        line.fail()
    return leaf_from(line)


def kind_within(line, depth):
    """The kind behind an opening parenthesis."""
    if depth == DEEPEST:
        line.fail()
    line.take_mark("(")
    return kind_from(line, depth + 1)


def is_leaf_next(line):
    """Whether a variable or a constructor is next."""
    return line.peek()[0] == "var" or line.has_name()


def is_part_next(line):
    """Whether a part of a kind is next."""
    return line.is_mark("(") or is_leaf_next(line)


def leaf_from(line):
    sort, word = line.take()
    return var(word) if sort == "var" else ("con", word)


def need_from(line):
    """A need: a role with one or two kinds."""
    role = line.take_name()
    kinds = [part_from(line)]
    if is_part_next(line):
        kinds.append(part_from(line))
    return (role,) + tuple(kinds)


def needs_from(line):
    """Needs with commas between them, a tuple."""
    found = [need_from(line)]
    while line.is_mark(","):
        line.take()
        found.append(need_from(line))
    return tuple(found)


def scheme_from(line):
    """The kind and the needs of a scheme."""
    kind = kind_from(line)
    if not line.is_next_word("if"):
        return kind, ()
    line.take()
    return kind, needs_from(line)
