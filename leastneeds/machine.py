"""Compiled programs: terms without kinds, in which records are passed for needs."""

from leastneeds.errors import Faulty, InvalidMarked, UnknownName
from leastneeds.looking import is_marked
from leastneeds.marked import marked_in
from leastneeds.plain import argument_count, check_run, outcome_of
from leastneeds.recording import recorded
from leastneeds.records import record_in
from leastneeds.running import Run
from leastneeds.wheres import is_where


class Compiled:
    """A program whose terms are compiled; `terms` are tuples of a where and a marked term."""

    def __init__(self, program, *terms):
        if not program.is_right:
            raise Faulty(program.faults[0][0])
        # The compiled terms by their wheres: those that are given, and others as they are asked for.
        self.terms = {}
        for index, value in enumerate(terms):
            if not is_told_term(program, value) or value[0] in self.terms:
                raise InvalidMarked(index)
            self.terms[value[0]] = compiled(value[1])
        self.program = program

    def term_at(self, where):
        """The compiled term at a where."""
        if not is_where(self.program.book, where):
            raise UnknownName(where)
        if where not in self.terms:
            self.terms[where] = compiled(marked_in(self.program.findings, where))
        return self.terms[where]

    def run(self, name, *, limit=1000):
        """The outcome of a run of a definition."""
        return outcome_of(self.started(name, limit))

    def events(self, name, *, limit=1000):
        """A generator of the events of a run of a definition, in order."""
        steps = self.started(name, limit)
        event = steps.next_event()
        while event is not None:
            yield event
            event = steps.next_event()

    def started(self, name, limit):
        """A run of a definition with records, at its beginning."""
        check_run(self.program, name, limit)
        steps = Run(RecordHome(self), limit)
        # Without variables, the needs of the scheme are met from no needs.
        needs = self.program.findings.schemes.at(name).needs
        context = tuple([record_in(self.program.book, need) for need in needs])
        steps.begin(("definition", name), context)
        return steps


def is_told_term(program, value):
    """Whether any value is a tuple of a where and a right marked term for it."""
    if not isinstance(value, tuple) or len(value) != 2 or not is_where(program.book, value[0]):
        return False
    return is_marked(program, value[0], value[1])


def compiled(term):
    """The compiled term of a marked term."""
    word = term[0]
    if word == "name":
        return ("name", term[1], term[3])
    if word == "member":
        return ("member", term[1], term[3], term[5])
    if word == "use":
        return ("use", compiled(term[1]), compiled(term[2]))
    if word == "given":
        return ("given", term[1], compiled(term[3]))
    if word == "let":
        rows = [(row[0], len(row[2]), compiled(row[4])) for row in term[1]]
        return ("let", tuple(rows), compiled(term[2]))
    if word == "match":
        arms = [(row[0], row[1], compiled(row[2])) for row in term[2]]
        return ("match", compiled(term[1]), tuple(arms))
    return term


class RecordHome:
    """What a run with records runs by. A context is a tuple of records."""

    def __init__(self, machine):
        self.machine = machine
        self.book = machine.program.book
        self.findings = machine.program.findings

    def run_term(self, where):
        """The compiled term at a where."""
        return self.machine.term_at(where)

    def argument_count(self, name):
        """How many arguments a constructor or a primitive has."""
        return argument_count(self.findings, name)

    def entered_let(self, mark, row, outer, context):
        """The context of a row of a let, whose let stands in an outer one, at a use in a context."""
        return outer + self.records_of(mark[2], context)

    def entered_definition(self, mark, context):
        """The context of the term of a definition at a use in a context."""
        return self.records_of(mark[2], context)

    def entered_member(self, mark, context):
        """The where of what a member stands for at a use in a context, and the context there."""
        name = mark[1]
        record = recorded(self.book, mark[2], context)
        own = self.records_of(mark[3], context)
        case = self.book.cases[record[0]]
        if name in dict(case.members):
            return ("case", case.name, name), record[1] + own
        return ("role", case.role, name), (record,) + own

    def records_of(self, papers, context):
        """The records that papers make from those of a context, a tuple."""
        return tuple([recorded(self.book, paper, context) for paper in papers])
