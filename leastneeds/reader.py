"""Reading kinds, schemes and terms from texts."""

from leastneeds.errors import InvalidText
from leastneeds.kind_reading import kind_from, scheme_from
from leastneeds.lines import Line
from leastneeds.schemes import Scheme
from leastneeds.term_reading import term_from


def read_kind(text):
    """The kind with this text."""
    return read_alone(text, kind_from)


def read_scheme(text):
    """The scheme with this text."""
    kind, needs = read_alone(text, scheme_from)
    return Scheme.under(kind, needs)


def read_term(text):
    """The term with this text."""
    return read_alone(text, term_from)


def read_alone(text, reading):
    """What a function reads from a text of one line; InvalidText for any value that is none."""
    if not isinstance(text, str):
        raise InvalidText(0, 0)
    line = Line(text.split("\n")[0], 0)
    found = reading(line)
    line.take_end()
    if "\n" in text:
        raise InvalidText(1, 0)
    return found
