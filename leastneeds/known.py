"""The schemes of the names that terms of a program may have."""

from leastneeds.kinds import con, to, var
from leastneeds.primitives import Primitives
from leastneeds.schemes import Scheme


class Known:
    """Schemes by names. Those that are declared are made when they are asked for first."""

    def __init__(self, book):
        self.book = book
        self.found = {}

    def keep(self, name, scheme):
        """Keep the scheme of a definition, None if its uses count as holes."""
        self.found[name] = scheme

    def at(self, name):
        """The scheme of a name, None for a definition whose uses count as holes."""
        if name not in self.found:
            self.found[name] = declared_scheme(self.book, name)
        return self.found[name]


def declared_scheme(book, name):
    """The scheme of a constructor, primitive, member or told definition."""
    if name in book.constructors:
        return constructor_scheme(book, name)
    if name in book.members:
        return member_scheme(book.roles[book.members[name]], name)
    if name in book.definitions:
        return book.definitions[name].told
    return Primitives.told_scheme(name)


def constructor_scheme(book, name):
    """The scheme of a constructor."""
    data = book.data[book.constructors[name]]
    parts = [var(word) for word in data.variables]
    whole = con(data.name, *parts)
    fields = book.fields_of(name)
    return Scheme(to(*fields, whole))


def member_scheme(role, name):
    """The scheme of a member: with the need of its role, then its own ones."""
    need = (role.name,) + tuple([var(word) for word in role.variables])
    _, kind, needs, _ = [row for row in role.members if row[0] == name][0]
    return Scheme(kind, need, *needs)
