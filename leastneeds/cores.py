"""Cores of terms that have no kinds, or ask what is not there: how little of them is wrong."""

from leastneeds.cutting import is_around, leaves_in, places_in, with_holes
from leastneeds.errors import NoCore, OutOfTerm, UnknownName
from leastneeds.terms import part_at
from leastneeds.wheres import is_where, term_at


def cut(term, *places):
    """The term with holes at some places."""
    for k, place in enumerate(places):
        part_at(term, place)
        if any([is_around(other, place) or is_around(place, other) for other in places[:k]]):
            raise OutOfTerm(place)
    return with_holes(term, places)


def core(program, where):
    """The places of the holes of the core of the term at a where, a tuple."""
    check_place(program, where)
    found = core_holes(program, where)
    if found is None:
        raise NoCore(where)
    return found


def is_bad(program, where, *places):
    """Whether the cut of the term at a where is unfit or lacking."""
    check_place(program, where)
    return is_bad_term(program, where, cut(term_at(program.book, where), *places))


def mends(program, where, most):
    """The sets of at most so many leaves whose cut is not bad, the least ones, a list of tuples of places."""
    check_place(program, where)
    holes = core_holes(program, where)
    if holes is None:
        return [()]
    term = term_at(program.book, where)
    leaves = leaves_in(term)
    # What is cut within the holes of the core alone leaves all that is bad there.
    ahead = {leaf: True for leaf in leaves if not any([is_around(hole, leaf) for hole in holes])}
    single = {leaf: True for leaf in ahead if not is_bad_term(program, where, with_holes(term, (leaf,)))}
    rows = [(leaf,) for leaf in single]
    if most == 1:
        return rows
    pairs = pairs_of([leaf for leaf in leaves if leaf not in single])
    pairs = [pair for pair in pairs if pair[0] in ahead or pair[1] in ahead]
    return rows + [pair for pair in pairs if not is_bad_term(program, where, with_holes(term, pair))]


def pairs_of(leaves):
    """All pairs of different leaves, ascending, a list."""
    return [(leaf, other) for k, leaf in enumerate(leaves) for other in leaves[k + 1 :]]


def check_place(program, where):
    """Raise UnknownName for any value that is no where."""
    if not is_where(program.book, where):
        raise UnknownName(where)


def core_holes(program, where):
    """The places of the holes of the core of a term, a tuple; None if the term is not bad."""
    term = term_at(program.book, where)
    if not is_bad_term(program, where, term):
        return None
    found = ()
    for place in places_in(term):
        if not any([is_around(hole, place) for hole in found]):
            if is_bad_term(program, where, with_holes(term, found + (place,))):
                found = found + (place,)
    return found


def is_bad_term(program, where, term):
    """Whether a term is unfit or lacking in the place of that at a where."""
    return program.findings.study_with(where, term).word in ("unfit", "lacking")
