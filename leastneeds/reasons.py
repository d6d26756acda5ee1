"""Reasons: why the scheme of a definition has a need."""

from leastneeds.asking import asking_uses
from leastneeds.errors import Faulty, UnknownName
from leastneeds.improvement import least_of
from leastneeds.names import is_integer
from leastneeds.needs import need_key, put_need


def reasons(program, name, need):
    """All uses that ask a need in the terms of the ring of a definition, tuples (definition, place)."""
    check_definition(program, name)
    return tuple(sorted([(use.definition, use.place) for use in uses_for(program.findings, name, need)]))


def why(program, name, need):
    """A shortest chain of uses from a definition to where its need comes from; None if there is none."""
    check_definition(program, name)
    findings = program.findings
    seen = {}
    level = [(name, need, ())]
    while level:
        later = []
        for definition, wanted, chain in level:
            for use in uses_for(findings, definition, wanted):
                longer = chain + ((use.definition, use.place),)
                if is_last(findings.book, use):
                    return longer
                for other in needs_behind(findings, use, wanted):
                    key = use.name + " " + need_key(other)
                    if key not in seen:
                        seen[key] = True
                        later.append((use.name, other, longer))
        level = later
    return None


def is_why(program, name, need, value):
    """Whether any value is a chain of uses from a definition to where its need comes from."""
    check_definition(program, name)
    if not isinstance(value, tuple) or len(value) == 0 or not all([is_link(link) for link in value]):
        return False
    findings = program.findings
    wanted = [(name, need)]
    for k, link in enumerate(value):
        uses = [(use, row[1]) for row in wanted for use in uses_for(findings, row[0], row[1])]
        here = [row for row in uses if (row[0].definition, row[0].place) == link]
        if len(here) == 0:
            return False
        # The place tells which name is used there.
        if is_last(findings.book, here[0][0]):
            return k == len(value) - 1
        found = {}
        for use, asked in here:
            for other in needs_behind(findings, use, asked):
                found[need_key(other)] = (use.name, other)
        wanted = list(found.values())
    return False


def check_definition(program, name):
    """Raise Faulty with the first fault of a program, then UnknownName for what is no definition."""
    if not program.is_right:
        raise Faulty(program.faults[0][0])
    if not isinstance(name, str) or name not in program.book.definitions:
        raise UnknownName(name)


def uses_for(findings, name, need):
    """The uses that ask a need, over the variables of the scheme of a definition, a list."""
    return [use for use in asking_uses(findings, name) if any([need in row[1] for row in use.rows])]


def is_last(book, use):
    """Whether a use is that of a member or of a definition with a told scheme."""
    return use.name in book.members or book.definitions[use.name].told is not None


def needs_behind(findings, use, need):
    """The needs of the definition that is used by which the use asks a need, a list."""
    found = []
    for other in findings.schemes.at(use.name).needs:
        for by, least in use.rows:
            if need in least and need in least_of(findings.book, [put_need(other, by)]):
                found.append(other)
                break
    return found


def is_link(value):
    """Whether any value is a tuple of a string and a tuple of integers."""
    if not isinstance(value, tuple) or len(value) != 2 or not isinstance(value[0], str):
        return False
    return isinstance(value[1], tuple) and all([is_integer(k) for k in value[1]])
