"""Needs: a role with one or two kinds."""

from leastneeds.kinds import is_kind, kind_key, put, text_of, variables_of
from leastneeds.names import is_name


def is_need(value):
    """Whether any value has the form of a need."""
    if not isinstance(value, tuple) or not 2 <= len(value) <= 3:
        return False
    return is_name(value[0]) and all([is_kind(kind) for kind in value[1:]])


def put_need(need, by):
    """The need in which variables are replaced as `put` does it."""
    return (need[0],) + tuple([put(kind, by) for kind in need[1:]])


def put_needs(needs, by):
    """The needs in which variables are replaced, a list."""
    return [put_need(need, by) for need in needs]


def kinds_of(needs):
    """The kinds of all these needs, in order, a list."""
    return [kind for need in needs for kind in need[1:]]


def variables_in(needs):
    """The names of the variables of all these needs, each once, in order."""
    kinds = kinds_of(needs)
    return variables_of(*kinds)


def need_key(need):
    """A string that only this need has: it stands for the need in dicts, where tuples must not be deep."""
    if len(need) == 2:
        return need[0] + " " + kind_key(need[1])
    return need[0] + " " + kind_key(need[1]) + kind_key(need[2])


def need_rank(need):
    """What needs are ordered by: the role, then the texts of the kinds."""
    return (need[0],) + tuple([text_of(kind) for kind in need[1:]])


def different(needs):
    """The needs, each once, in the order in which they stand first, a list."""
    found = {}
    for need in needs:
        found.setdefault(need_key(need), need)
    return list(found.values())
