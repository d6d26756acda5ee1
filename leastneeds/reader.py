"""Reading kinds, schemes and terms from texts."""

from leastneeds.errors import InvalidText
from leastneeds.kind_reading import kind_from, scheme_from
from leastneeds.lines import Line
from leastneeds.schemes import Scheme
from leastneeds.term_reading import term_from


def read_kind(text):
    """The kind with this text."""
    line = only_line(text)
    kind = kind_from(line, 0)
    check_end(line, text)
    return kind


def read_scheme(text):
    """The scheme with this text."""
    line = only_line(text)
    kind, needs = scheme_from(line)
    check_end(line, text)
    return Scheme.under(kind, needs)


def read_term(text):
    """The term with this text."""
    line = only_line(text)
    term = term_from(line, 0)
    check_end(line, text)
    return term


def only_line(text):
    """The first line of a text; InvalidText for any value that is no string."""
    if not isinstance(text, str):
        raise InvalidText(0, 0)
    return Line(text.split("\n")[0], 0)


def check_end(line, text):
    """Raise InvalidText if the line goes on, or another one is behind it."""
    line.take_end()
    if "\n" in text:
        raise InvalidText(1, 0)
