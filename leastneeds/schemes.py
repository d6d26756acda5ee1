"""Schemes: kinds for all kinds of their variables for which some needs are there."""

from leastneeds.errors import InvalidCount, InvalidKind, InvalidNeed
from leastneeds.kinds import is_kind, put, size_of, var, variables_of
from leastneeds.names import first_names
from leastneeds.needs import is_need, kinds_of, put_needs
from leastneeds.sameness import same_scheme


class Scheme:
    """A kind, and the needs under which it may be used."""

    def __init__(self, kind, *needs):
        if not is_kind(kind):
            raise InvalidKind(kind)
        for need in needs:
            if not is_need(need):
                raise InvalidNeed(need)
        every = [kind] + kinds_of(needs)
        self.kind = kind
        self.needs = needs
        self.variables = variables_of(*every)
        self.size = size_of(*every)

    @classmethod
    def under(cls, kind, needs):
        """The scheme of a kind and a sequence of needs."""
        if not is_kind(kind):
            raise InvalidKind(kind)
        if not isinstance(needs, (list, tuple)):
            raise InvalidNeed(needs)
        return cls(kind, *needs)

    def __eq__(self, other):
        return isinstance(other, Scheme) and same_scheme(self.kind, self.needs, other.kind, other.needs)

    def named(self):
        """An equal scheme with the variables a, b, .. in their order."""
        names = [var(name) for name in first_names(len(self.variables))]
        kind, needs = self.at(*names)
        return Scheme(kind, *needs)

    def at(self, *kinds):
        """The kind and the needs, a tuple, with these kinds for the variables in their order."""
        if len(kinds) != len(self.variables):
            raise InvalidCount(len(kinds))
        by = dict(zip(self.variables, kinds))
        return put(self.kind, by), tuple(put_needs(self.needs, by))
