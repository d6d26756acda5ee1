"""Reading the declarations and the picks of a program."""

from leastneeds.declarations import Case, Data, Definition, Derive, Role
from leastneeds.errors import InvalidText
from leastneeds.kind_reading import is_part_next, kind_from, need_from, needs_from, part_from, scheme_from
from leastneeds.lines import Line
from leastneeds.schemes import Scheme
from leastneeds.term_reading import term_from


def program_from(text):
    """The declarations of a program, a list, and its picks."""
    if not isinstance(text, str):
        raise InvalidText(0, 0)
    lines = [Line(row, k) for k, row in enumerate(text.split("\n"))] if text != "" else []
    picks = ()
    start = 0
    if lines and lines[0].is_next_word("picks"):
        picks = picks_from(lines[0])
        start = 1
    rows = rows_from(lines, start)
    # Nothing is made before all is read: a wrong text is told ahead of a wrong declaration.
    return [declaration_of(row) for row in rows], picks


def picks_from(line):
    line.take()
    found = [kind_from(line)]
    while line.is_mark(","):
        line.take()
        found.append(kind_from(line))
    line.take_end()
    return tuple(found)


def rows_from(lines, start):
    """What the declarations from a line on say, a list of tuples that begin with their words."""
    found = []
    while start < len(lines):
        line = lines[start]
        start += 1
        sort, word = line.peek()
        if sort != "word" or word not in HEADS:
            line.fail()
        line.take()
        reading = HEADS[word]
        row = reading(line)
        line.take_end()
        inner = []
        while word in INNER and start < len(lines) and lines[start].is_next_word(INNER[word][0]):
            reading = INNER[word][1]
            inner.append(reading(lines[start]))
            lines[start].take_end()
            start += 1
        found.append((word, row, tuple(inner)))
    return found


def data_from(line):
    name = line.take_name()
    variables = variables_from(line)
    line.take_mark("=")
    constructors = [constructor_from(line)]
    while line.is_mark("|"):
        line.take()
        constructors.append(constructor_from(line))
    return name, variables, tuple(constructors)


def variables_from(line):
    found = []
    while line.peek()[0] == "var":
        found.append(line.take()[1])
    return tuple(found)


def constructor_from(line):
    name = line.take_name()
    fields = []
    while is_part_next(line):
        fields.append(part_from(line))
    return (name, tuple(fields))


def role_from(line):
    name = line.take_name()
    variables = variables_from(line)
    above = ()
    if line.is_next_word("above"):
        line.take()
        above = needs_from(line)
    return name, variables, above, settles_from(line)


def settles_from(line):
    """Which places settle which, if the line tells it."""
    if not line.is_next_word("settles"):
        return ()
    line.take()
    if line.peek() == ("whole", 1):
        return (settling_from(line, 1, 0),)
    found = (settling_from(line, 0, 1),)
    if line.is_mark(","):
        line.take()
        found = found + (settling_from(line, 1, 0),)
    return found


def settling_from(line, one, other):
    for number in (one, other):
        if line.peek() != ("whole", number):
            line.fail()
        line.take()
    return (one, other)


def member_from(line):
    line.take()
    name = line.take_name()
    line.take_mark(":")
    kind, needs = scheme_from(line)
    if not line.is_mark("="):
        return name, kind, needs, None
    line.take()
    return name, kind, needs, term_from(line)


def case_from(line):
    name = line.take_name()
    line.take_mark(":")
    head = need_from(line)
    if not line.is_next_word("if"):
        return name, head, ()
    line.take()
    return name, head, needs_from(line)


def case_member_from(line):
    line.take()
    name = line.take_name()
    line.take_mark("=")
    return name, term_from(line)


def definition_from(line):
    name = line.take_name()
    told = None
    if line.is_mark(":"):
        line.take()
        told = scheme_from(line)
    line.take_mark("=")
    return name, term_from(line), told


def derive_from(line):
    name = line.take_name()
    line.take_mark(":")
    role = line.take_name()
    return name, role, line.take_name()


# How the lines of each word are read.
HEADS = {
    "data": data_from,
    "role": role_from,
    "case": case_from,
    "define": definition_from,
    "derive": derive_from,
}

# The word of the lines that belong to a line, and how they are read.
INNER = {"role": ("member", member_from), "case": ("as", case_member_from)}


def declaration_of(row):
    """The declaration that lines tell."""
    word, told, inner = row
    if word == "data":
        return Data(told[0], told[1], told[2])
    if word == "role":
        return Role(told[0], told[1], inner, above=told[2], settles=told[3])
    if word == "case":
        head = told[1]
        return Case(told[0], head[0], head[1:], inner, needs=told[2])
    if word == "define":
        scheme = None if told[2] is None else Scheme.under(told[2][0], told[2][1])
        return Definition(told[0], told[1], told=scheme)
    return Derive(told[0], told[1], told[2])
