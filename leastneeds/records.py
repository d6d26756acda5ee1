"""Records: which cases meet a need without variables."""

from leastneeds.charts import plan_of
from leastneeds.errors import InvalidNeed, Unmet
from leastneeds.needs import variables_in
from leastneeds.recording import recorded
from leastneeds.shapes import is_need_in


def record(program, need):
    """The record of a need without variables."""
    if not is_closed_need(program.book, need):
        raise InvalidNeed(need)
    found = record_in(program.book, need)
    if found is None:
        raise Unmet(need)
    return found


def above(program, record, k):
    """The record of the need above with this index, from a record."""
    return recorded(program.book, ("given", 0, (("above", k),)), (record,))


def is_record(program, need, value):
    """Whether any value is the record of a need."""
    if not is_closed_need(program.book, need):
        return False
    found = record_in(program.book, need)
    return found is not None and value == found


def is_closed_need(book, value):
    """Whether any value is a need of a program without variables."""
    return is_need_in(book, value) and len(variables_in([value])) == 0


def record_in(book, need):
    """The record of a need without variables; None if it is not met."""
    found = {}
    key = ""
    for _, key, name, parts in plan_of(book, need):
        if name is None:
            return None
        found[key] = (name, tuple([found[part] for part in parts]))
    # The need itself comes last.
    return found[key]
