"""Deeds: what a change does to the declarations and the picks of a program."""

from leastneeds.declarations import Case, Data, Definition, Derive, Role
from leastneeds.errors import InvalidDeed, Known, Missing
from leastneeds.program import Program

WORDS = ("data", "role", "case", "definition")


def program_after(program, deeds):
    """The program that deeds make of another one."""
    for index, value in enumerate(deeds):
        if not is_deed(value):
            raise InvalidDeed(index)
    declarations = list(program.declarations)
    picks = program.picks
    for index, deed in enumerate(deeds):
        if deed[0] == "picks":
            picks = deed[1]
        else:
            declarations = done(declarations, deed, index)
    return Program.of(declarations, picks=picks)


def done(declarations, deed, index):
    """The declarations behind a deed with this index, a list."""
    word, what = deed
    key = what if word == "take" else key_of(what)
    keys = [key_of(row) for row in declarations]
    if word == "put":
        if key in keys:
            raise Known(index)
        return declarations + [what]
    if key not in keys:
        raise Missing(index)
    at = keys.index(key)
    inner = [what] if word == "replace" else []
    return declarations[:at] + inner + declarations[at + 1 :]


def is_deed(value):
    """Whether any value is a deed."""
    if not isinstance(value, tuple) or len(value) != 2:
        return False
    word, what = value
    if word == "put" or word == "replace":
        return isinstance(what, (Data, Role, Case, Definition, Derive))
    if word == "take":
        return isinstance(what, tuple) and len(what) == 2 and what[0] in WORDS and isinstance(what[1], str)
    return word == "picks" and isinstance(what, (list, tuple))


def key_of(declaration):
    """The key of a declaration."""
    if isinstance(declaration, Data):
        return ("data", declaration.name)
    if isinstance(declaration, Role):
        return ("role", declaration.name)
    if isinstance(declaration, Definition):
        return ("definition", declaration.name)
    return ("case", declaration.name)
