"""Wheres: the terms of definitions, of defaults and of members of cases, and what is due there."""

from leastneeds.kinds import put, var, variables_of
from leastneeds.names import names_beside
from leastneeds.needs import kinds_of, put_needs


def is_where(book, value):
    """Whether any value is a where of a book."""
    if not isinstance(value, tuple) or not all([isinstance(word, str) for word in value]):
        return False
    if len(value) == 2 and value[0] == "definition":
        return value[1] in book.definitions
    if len(value) == 3 and value[0] == "role" and value[1] in book.roles:
        return any([row[0] == value[2] and row[3] is not None for row in book.roles[value[1]].members])
    if len(value) == 3 and value[0] == "case" and value[1] in book.cases:
        return any([row[0] == value[2] for row in book.cases[value[1]].members])
    return False


def term_at(book, where):
    """The term at a where."""
    if where[0] == "definition":
        return book.definitions[where[1]].term
    return term_in(book, where)


def term_in(book, where):
    """The term of a default or of the member of a case."""
    if where[0] == "role":
        return member_row(book.roles[where[1]], where[2])[3]
    return dict(book.cases[where[1]].members)[where[2]]


def member_row(role, name):
    """A member of a role, as its declaration tells it."""
    return [row for row in role.members if row[0] == name][0]


def due_in(book, where):
    """The kind that is due for a default or for the member of a case, and the needs that are given there."""
    if where[0] == "role":
        role = book.roles[where[1]]
        _, kind, needs, _ = member_row(role, where[2])
        own = (role.name,) + tuple([var(name) for name in role.variables])
        return kind, (own,) + needs
    case = book.cases[where[1]]
    role = book.roles[case.role]
    _, kind, needs, _ = member_row(role, where[2])
    by = dict(zip(role.variables, case.kinds))
    every = [kind] + kinds_of(needs)
    others = [name for name in variables_of(*every) if name not in by]
    # The other variables must not be mixed up with those of the case.
    for name, word in zip(others, names_beside(len(others), variables_of(*case.kinds))):
        by[name] = var(word)
    return put(kind, by), case.needs + tuple(put_needs(needs, by))
