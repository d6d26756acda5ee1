"""Runs with kinds."""

from leastneeds.errors import Faulty, InvalidLimit, NoDefinition, NotClosed
from leastneeds.kinds import put, variables_of
from leastneeds.marked import marked_in
from leastneeds.names import is_integer, names_beside
from leastneeds.needs import kinds_of
from leastneeds.running import MOST_STEPS, Run
from leastneeds.uniting import fits
from leastneeds.wheres import member_row


class Outcome:
    """How a run ended."""

    def __init__(self, ending, result, numbers):
        self.ending = ending
        self.result = result
        self.numbers = dict(numbers)
        self.steps = sum(list(numbers.values()))

    @property
    def counts(self):
        """The numbers of steps by the words of their events."""
        return dict(self.numbers)

    def __eq__(self, other):
        return (
            isinstance(other, Outcome)
            and self.ending == other.ending
            and self.result == other.result
            and self.numbers == other.numbers
        )


def run(program, name, *, limit=1000):
    """The outcome of a run of a definition."""
    return outcome_of(started(program, name, limit))


def events(program, name, *, limit=1000):
    """A generator of the events of a run of a definition, in order."""
    steps = started(program, name, limit)
    event = steps.next_event()
    while event is not None:
        yield event
        event = steps.next_event()


def started(program, name, limit):
    """A run of a definition with kinds, at its beginning."""
    check_run(program, name, limit)
    steps = Run(KindHome(program), limit)
    steps.begin(("definition", name), {})
    return steps


def check_run(program, name, limit):
    """Raise the first error of a run."""
    if not isinstance(name, str) or name not in program.book.definitions:
        raise NoDefinition(name)
    if not program.is_right:
        raise Faulty(program.faults[0][0])
    if len(program.findings.schemes.at(name).variables) > 0:
        raise NotClosed(name)
    if not is_integer(limit) or not 0 <= limit <= MOST_STEPS:
        raise InvalidLimit(limit)


def outcome_of(steps):
    """The outcome to which a run comes."""
    while steps.next_event() is not None:
        pass
    return Outcome(steps.ending, steps.result, steps.numbers)


class KindHome:
    """What a run with kinds runs by. A context is a dict from variables to kinds."""

    def __init__(self, program):
        self.book = program.book
        self.findings = program.findings

    def run_term(self, where):
        """The term at a where, with its marks."""
        return marked_in(self.findings, where)

    def argument_count(self, name):
        """How many arguments a constructor or a primitive has."""
        return argument_count(self.findings, name)

    def entered_let(self, mark, row, outer, context):
        """The context of a row of a let, whose let stands in an outer one, at a use in a context."""
        by = dict(zip(row[1], kinds_in(mark[2], context)))
        return {**outer, **by}

    def entered_definition(self, mark, context):
        """The context of the term of a definition at a use in a context."""
        variables = self.findings.schemes.at(mark[1]).variables
        return dict(zip(variables, kinds_in(mark[2], context)))

    def entered_member(self, mark, context):
        """The where of what a member stands for at a use in a context, and the context there."""
        name = mark[1]
        role = self.book.roles[self.book.members[name]]
        kinds = kinds_in(mark[2], context)
        own = kinds_in(mark[4], context)
        for case in self.book.cases_near((role.name,) + tuple(kinds)):
            by = fits(case.kinds, kinds)
            if by is not None and name in dict(case.members):
                by.update(dict(zip(names_beside(len(own), variables_of(*case.kinds)), own)))
                return ("case", case.name, name), by
        _, kind, needs, _ = member_row(role, name)
        every = [kind] + kinds_of(needs)
        names = [word for word in variables_of(*every) if word not in role.variables]
        return ("role", role.name, name), dict(zip(list(role.variables) + names, kinds + own))


def kinds_in(kinds, context):
    """Kinds with those of a context for their variables, a list."""
    return [put(kind, context) for kind in kinds]


def argument_count(findings, name):
    """How many arguments a constructor or a primitive has."""
    kind = findings.schemes.at(name).kind
    many = 0
    while kind[0] == "apply" and kind[1][0] == "apply" and kind[1][1] == ("con", "to"):
        many += 1
        kind = kind[2]
    return many
