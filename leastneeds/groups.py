"""Groups of definitions: which ones use one another."""

from leastneeds.errors import UnknownName


def uses(program, name):
    """The names of the definitions that the term of a definition uses, ascending, a tuple."""
    used = program.findings.used
    if not isinstance(name, str) or name not in used:
        raise UnknownName(name)
    return used[name]


def rings(program):
    """All rings of definitions, tuples of names, each behind those that it uses."""
    return program.findings.rings
