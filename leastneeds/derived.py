"""The cases that the package writes for derives."""

from leastneeds.declarations import Derive
from leastneeds.deriving import wanted_needs
from leastneeds.errors import UnknownName


def wanted(program, name):
    """The wanted needs of a derive, a tuple."""
    return tuple(wanted_needs(program.book, derive_named(program, name)))


def derived(program, name):
    """The case that a derive stands for."""
    return program.case_named(derive_named(program, name).name)


def derive_named(program, name):
    """The derive with this name; UnknownName for any value that is no name of one."""
    if isinstance(name, str):
        for row in program.declarations:
            if isinstance(row, Derive) and row.name == name:
                return row
    raise UnknownName(name)
