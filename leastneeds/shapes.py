"""Shapes: how many parts kinds lack."""

from leastneeds.errors import UnknownName
from leastneeds.kinds import spine_of
from leastneeds.needs import is_need


def shapes_of(program, role):
    """The shapes of the places of a role of a program, a tuple."""
    if not isinstance(role, str) or role not in program.book.shapes:
        raise UnknownName(role)
    return program.book.shapes[role]


def shape_of(program, kind, shapes):
    """The shape of a kind whose variables have the shapes of a dict; None if it is not one."""
    head, parts = spine_of(kind)
    if head[0] == "var":
        lacks = shapes.get(head[1])
    else:
        lacks = program.book.lacks.get(head[1])
    if lacks is None or lacks < len(parts):
        return None
    if not all([shape_of(program, part, shapes) == 0 for part in parts]):
        return None
    return lacks - len(parts)


def is_need_in(book, value):
    """Whether any value is a need of the program of a book."""
    if not is_need(value) or value[0] not in book.roles:
        return False
    if len(value) - 1 != len(book.roles[value[0]].variables):
        return False
    return are_shaped(book, list(zip(value[1:], book.shapes[value[0]])))


def is_scheme_in(book, scheme):
    """Whether all names and shapes of a scheme are those of the program of a book."""
    rows = [(scheme.kind, 0)]
    for need in scheme.needs:
        if not is_need_in(book, need):
            return False
        rows.extend(list(zip(need[1:], book.shapes[need[0]])))
    return are_shaped(book, rows)


def are_shaped(book, rows):
    """Whether there are shapes of the variables by which each kind has the shape beside it.

    The rows are tuples (kind, shape).
    """
    found = {}
    waiting = list(rows)
    while waiting:
        head, lacks = waiting.pop()
        while head[0] == "apply":
            waiting.append((head[2], 0))
            lacks += 1
            head = head[1]
        if head[0] == "con":
            known = book.lacks.get(head[1])
        else:
            known = found.setdefault(head[1], lacks)
        if known is None or known != lacks:
            return False
    return True
