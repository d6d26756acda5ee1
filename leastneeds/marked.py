"""Marked terms: terms with the kinds and the papers of each use of a name."""

from leastneeds.errors import Faulty, UnknownName
from leastneeds.marking import Marker
from leastneeds.wheres import due_in, is_where


def due(program, where):
    """The kind that is due at a where, and the needs that are given there."""
    check_where(program, where)
    if where[0] == "definition":
        scheme = program.findings.schemes.at(where[1])
        return scheme.kind, scheme.needs
    return due_in(program.book, where)


def marked(program, where):
    """The marked term with the least schemes and first papers."""
    check_where(program, where)
    return marked_in(program.findings, where)


def marked_in(findings, where):
    """The marked term at a where of a program without faults."""
    if where not in findings.kept_marks:
        study, index = findings.finished_study(where)
        findings.kept_marks[where] = Marker(study, index).marked_term()
    return findings.kept_marks[where]


def check_where(program, where):
    """Raise Faulty with the first fault of a program, then UnknownName for any value that is no where."""
    if not program.is_right:
        raise Faulty(program.faults[0][0])
    if not is_where(program.book, where):
        raise UnknownName(where)
