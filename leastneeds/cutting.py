"""Terms in which some parts are holes."""

from leastneeds.terms import part_at, parts_in, parts_of_term, places

HOLE = ("hole",)


def with_parts(term, parts):
    """The term with other parts, in order."""
    if term[0] == "use":
        return ("use", parts[0], parts[1])
    if term[0] == "given":
        return ("given", term[1], parts[0])
    if term[0] == "let":
        rows = [(row[0], part) for row, part in zip(term[1], parts)]
        return ("let", tuple(rows), parts[-1])
    if term[0] == "match":
        arms = [(arm[0], arm[1], part) for arm, part in zip(term[2], parts[1:])]
        return ("match", parts[0], tuple(arms))
    return term


def count_of(term):
    """The number of places of a term."""
    return len(parts_of_term(term))


def beginning_of(term, many):
    """The term in which each place from this one on, in reading order, is a hole."""
    if many <= 0:
        return HOLE
    left = many - 1
    parts = []
    for part in parts_in(term):
        parts.append(beginning_of(part, left))
        left -= count_of(part)
    return with_parts(term, parts)


def beginnings_of(terms, many):
    """As `beginning_of`, of several terms one behind the other, a list."""
    found = []
    left = many
    for term in terms:
        found.append(beginning_of(term, left))
        left -= count_of(term)
    return found


def with_holes(term, row):
    """The term with holes at places, none of them inside another one."""
    if () in row:
        return HOLE
    if len(row) == 0:
        return term
    parts = []
    for k, part in enumerate(parts_in(term)):
        parts.append(with_holes(part, [place[1:] for place in row if place[0] == k]))
    return with_parts(term, parts)


def places_in(term):
    """All places of a term in reading order, a list."""
    return list(places(term))


def leaves_in(term):
    """The places of names, wholes and texts in a term, in reading order, a list."""
    return [place for place in places_in(term) if part_at(term, place)[0] in ("name", "whole", "text")]


def is_around(place, other):
    """Whether a place is another one or around it."""
    return other[: len(place)] == place
