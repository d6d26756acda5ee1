"""Terms, and the places of their parts."""

from leastneeds.errors import OutOfTerm
from leastneeds.names import is_integer, is_name

BOUND = 10**30

LONGEST_TEXT = 200


def two_given(one, other, body):
    """A function with these two parameters."""
    return ("given", one, ("given", other, body))


def is_term(value):
    """Whether any value is a term."""
    # The value may be nested deeper than a term, so nothing calls itself here.
    waiting = [value]
    while waiting:
        parts = parts_in(waiting.pop())
        if parts is None:
            return False
        waiting.extend(parts)
    return True


def parts_in(value):
    """The list of the parts of a term. Of any other value: None, or a list with what is no term."""
    if not isinstance(value, tuple) or len(value) == 0:
        return None
    word = value[0]
    if not isinstance(word, str) or word not in FORMS:
        return None
    form = FORMS[word]
    return form(value)


def parts_in_name(value):
    if len(value) == 2 and is_name(value[1]):
        return []
    return None


def parts_in_whole(value):
    if len(value) == 2 and is_whole(value[1]):
        return []
    return None


def parts_in_text(value):
    if len(value) == 2 and is_text(value[1]):
        return []
    return None


def parts_in_use(value):
    if len(value) == 3:
        return [value[1], value[2]]
    return None


def parts_in_given(value):
    if len(value) == 3 and is_name(value[1]):
        return [value[2]]
    return None


def parts_in_let(value):
    if len(value) != 3 or not are_rows(value[1], 2):
        return None
    if not are_different_names([row[0] for row in value[1]]):
        return None
    return [row[1] for row in value[1]] + [value[2]]


def parts_in_match(value):
    if len(value) != 3 or not are_rows(value[2], 3):
        return None
    for arm in value[2]:
        if not is_name(arm[0]) or not isinstance(arm[1], tuple) or not are_different_names(arm[1]):
            return None
    return [value[1]] + [arm[2] for arm in value[2]]


def parts_in_hole(value):
    if len(value) == 1:
        return []
    return None


FORMS = {
    "name": parts_in_name,
    "whole": parts_in_whole,
    "text": parts_in_text,
    "use": parts_in_use,
    "given": parts_in_given,
    "let": parts_in_let,
    "match": parts_in_match,
    "hole": parts_in_hole,
}


def is_whole(value):
    """Whether any value is an integer that a term may have."""
    return is_integer(value) and -BOUND <= value <= BOUND


def is_text(value):
    """Whether any value is a text that a term may have."""
    if not isinstance(value, str) or len(value) > LONGEST_TEXT:
        return False
    # 37 is the percent sign, the one sign of these that texts do not have.
    return all([32 <= ord(sign) <= 126 and ord(sign) != 37 for sign in value])


def are_rows(value, length):
    """Whether any value is a tuple of at least one tuple of this length, and nothing else."""
    if not isinstance(value, tuple) or len(value) == 0:
        return False
    return all([isinstance(row, tuple) and len(row) == length for row in value])


def are_different_names(row):
    """Whether a list or tuple of any values has only names, all different."""
    return all([is_name(value) for value in row]) and len(set(row)) == len(row)


def places(term):
    """A generator of all places of a term, in reading order."""
    waiting = [((), term)]
    while waiting:
        place, part = waiting.pop()
        yield place
        rows = [(place + (k,), inner) for k, inner in enumerate(parts_in(part))]
        waiting.extend(list(reversed(rows)))


def parts_of_term(term):
    """The term and all that stands in it, in reading order, a list."""
    found = []
    waiting = [term]
    while waiting:
        part = waiting.pop()
        found.append(part)
        waiting.extend(list(reversed(parts_in(part))))
    return found


def has_hole(term):
    """Whether a hole stands in a term."""
    return any([part[0] == "hole" for part in parts_of_term(term)])


def part_at(term, place):
    """The part of a term at a place."""
    if not isinstance(place, tuple):
        raise OutOfTerm(place)
    part = term
    for k in place:
        parts = parts_in(part)
        if not is_integer(k) or not 0 <= k < len(parts):
            raise OutOfTerm(place)
        part = parts[k]
    return part


def bound_parts(term, bound):
    """The parts of a term in order, a list of tuples: each with the names that are bound in it.

    `bound` is the tuple of those that are bound around the term.
    """
    if term[0] == "given":
        return [(term[2], bound + (term[1],))]
    if term[0] == "let":
        inner = bound + tuple([row[0] for row in term[1]])
        return [(part, inner) for part in parts_in(term)]
    if term[0] == "match":
        return [(term[1], bound)] + [(arm[2], bound + arm[1]) for arm in term[2]]
    return [(part, bound) for part in parts_in(term)]


def words_of(term):
    """The names that nothing in a term binds, and the constructors of its arms.

    A list of tuples ("name", x) and ("arm", constructor) in reading order, an arm ahead of its term.
    """
    found = []
    waiting = [(term, ())]
    while waiting:
        part, bound = waiting.pop()
        if part[0] == "arm":
            found.append(part)
            continue
        if part[0] == "name" and part[1] not in bound:
            found.append(part)
        waiting.extend(list(reversed(rows_with_arms(part, bound))))
    return found


def rows_with_arms(term, bound):
    """As `bound_parts`, with a mark ahead of the term of each arm, which tells its constructor."""
    rows = bound_parts(term, bound)
    if term[0] != "match":
        return rows
    found = rows[:1]
    for arm, row in zip(term[2], rows[1:]):
        found.append((("arm", arm[0]), bound))
        found.append(row)
    return found


def free_names(term):
    """The names in a term that nothing in it binds, ascending."""
    return tuple(sorted({word for sort, word in words_of(term) if sort == "name"}))
