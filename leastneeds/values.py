"""Values: what runs come to."""

from leastneeds.kinds import is_arrow, is_kind, put, spine_of
from leastneeds.names import is_name
from leastneeds.terms import is_text, is_whole

MOST_PARTS = 1000

DEEPEST = 100


def is_value(value):
    """Whether any value is a value."""
    # The value may be nested deeper than a value, so nothing calls itself here.
    waiting = [(value, 1)]
    many = 0
    while waiting:
        part, depth = waiting.pop()
        many += 1
        inner = inner_values(part)
        if inner is None or many > MOST_PARTS or depth > DEEPEST:
            return False
        waiting.extend([(row, depth + 1) for row in inner])
    return True


def inner_values(value):
    """The values within a value, a tuple. Of any other value: None, or a tuple with what is no value."""
    if not isinstance(value, tuple) or len(value) == 0:
        return None
    if len(value) == 3 and value[0] == "made" and is_name(value[1]) and isinstance(value[2], tuple):
        return value[2]
    if len(value) == 2 and value[0] == "whole" and is_whole(value[1]):
        return ()
    if len(value) == 2 and value[0] == "text" and is_text(value[1]):
        return ()
    return () if value == ("function",) else None


def parts_of(value):
    """The number of the parts of a value."""
    many = 0
    waiting = [value]
    while waiting:
        many += 1
        part = waiting.pop()
        waiting.extend(inner_values(part))
    return many


def is_of(program, value, kind):
    """Whether a value is of a kind without variables."""
    if not is_value(value) or not is_kind(kind):
        return False
    waiting = [(value, kind)]
    while waiting:
        part, own = waiting.pop()
        fields = fields_at(program.book, part, own)
        if fields is None:
            return False
        waiting.extend(list(zip(inner_values(part), fields)))
    return True


def fields_at(book, value, kind):
    """The kinds that the values within a value have if it is of a kind, a list; None if it is not."""
    if value[0] == "function":
        return [] if is_arrow(kind) else None
    if value[0] != "made":
        return [] if kind == ("con", value[0]) else None
    head, parts = spine_of(kind)
    if value[1] not in book.constructors or head != ("con", book.constructors[value[1]]):
        return None
    variables = book.data[head[1]].variables
    fields = book.fields_of(value[1])
    if len(parts) != len(variables) or len(value[2]) != len(fields):
        return None
    by = dict(zip(variables, parts))
    return [put(field, by) for field in fields]
