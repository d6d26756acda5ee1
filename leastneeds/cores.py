"""Cores of terms that have no kinds, or ask what is not there: how little of them is wrong."""

from leastneeds.cutting import is_around, leaves_in, places_in, with_holes
from leastneeds.errors import NoCore, OutOfTerm, UnknownName
from leastneeds.terms import part_at
from leastneeds.wheres import is_where, term_at


def cut(term, *places):
    """The term with holes at some places."""
    for k, place in enumerate(places):
        part_at(term, place)
        if any([is_around(other, place) or is_around(place, other) for other in places[:k]]):
            raise OutOfTerm(place)
    return with_holes(term, places)


def core(program, where):
    """The places of the holes of the core of the term at a where, a tuple."""
    check_place(program, where)
    term = term_at(program.book, where)
    if not is_bad_term(program, where, term):
        raise NoCore(where)
    found = ()
    for place in places_in(term):
        if not any([is_around(hole, place) for hole in found]):
            if is_bad_term(program, where, with_holes(term, found + (place,))):
                found = found + (place,)
    return found


def is_bad(program, where, *places):
    """Whether the cut of the term at a where is unfit or lacking."""
    check_place(program, where)
    return is_bad_term(program, where, cut(term_at(program.book, where), *places))


def mends(program, where, most):
    """The sets of at most so many leaves whose cut is not bad, the least ones, a list of tuples of places."""
    check_place(program, where)
    term = term_at(program.book, where)
    if not is_bad_term(program, where, term):
        return [()]
    leaves = leaves_in(term)
    single = mending(program, where, (), leaves)
    found = [(leaf,) for leaf in single]
    others = [leaf for leaf in leaves if leaf not in single]
    if most == 2:
        for k, leaf in enumerate(others):
            found.extend([(leaf, other) for other in mending(program, where, (leaf,), others[k + 1 :])])
    return found


def mending(program, where, holes, leaves):
    """The leaves each of which, together with some holes, makes a cut that is not bad, a list."""
    term = term_at(program.book, where)
    # What is bad with all of these holes is bad with fewer ones, too.
    if len(leaves) == 0 or is_bad_term(program, where, with_holes(term, holes + tuple(leaves))):
        return []
    if len(leaves) == 1:
        return leaves
    half = len(leaves) // 2
    return mending(program, where, holes, leaves[:half]) + mending(program, where, holes, leaves[half:])


def check_place(program, where):
    """Raise UnknownName for any value that is no where."""
    if not is_where(program.book, where):
        raise UnknownName(where)


def is_bad_term(program, where, term):
    """Whether a term is unfit or lacking in the place of that at a where."""
    return program.findings.study_with(where, term).word in ("unfit", "lacking")
