"""The cases that derives stand for, and the needs that they come to have."""

from leastneeds.book import Book
from leastneeds.declarations import Case, Derive
from leastneeds.derived_terms import member_of
from leastneeds.errors import Underivable
from leastneeds.improvement import is_hopeless, least_of
from leastneeds.kinds import con, var
from leastneeds.rules import is_smaller


def derives_of(declarations):
    """The derives among declarations, a list."""
    return [row for row in declarations if isinstance(row, Derive)]


def head_of(book, derive):
    """The kind at which a derive has its case."""
    data = book.data[derive.data]
    parts = [var(name) for name in data.variables]
    return con(data.name, *parts)


def wanted_needs(book, derive):
    """The needs that a derived case has before they are reduced, a list."""
    found = []
    for _, fields in book.data[derive.data].constructors:
        found.extend([(derive.role, kind) for kind in fields])
    if derive.role == "order":
        found.append(("same", head_of(book, derive)))
    return found


def case_of(book, derive, needs):
    """The case that a derive stands for, if these are its needs."""
    member = member_of(derive.role, book.data[derive.data])
    return Case(derive.name, derive.role, (head_of(book, derive),), (member,), needs=needs)


def with_derived(book, declarations, needs):
    """The book in which derives have cases with needs, a dict from their names."""
    cases = [case_of(book, row, needs[row.name]) for row in derives_of(declarations)]
    found = Book(declarations, cases)
    found.shapes = dict(book.shapes)
    return found


def with_no_needs(book, declarations):
    """The book in which derives have cases without needs."""
    return with_derived(book, declarations, {row.name: () for row in derives_of(declarations)})


def with_needs(book, declarations):
    """The book in which derives have cases with the needs that rounds lead to."""
    derives = derives_of(declarations)
    needs = {row.name: () for row in derives}
    while True:
        found = with_derived(book, declarations, needs)
        for row in derives:
            check_wanted(found, row)
        later = {row.name: least_of(found, wanted_needs(found, row)) for row in derives}
        if later == needs:
            return found
        needs = later


def check_wanted(book, derive):
    """Raise Underivable for the first wanted need that has no hope, or does not become smaller."""
    head = [head_of(book, derive)]
    for need in wanted_needs(book, derive):
        if is_hopeless(book, (), need, ()):
            raise Underivable(derive.name, need)
        if not all([is_smaller(other, head) for other in least_of(book, [need])]):
            raise Underivable(derive.name, need)
