"""Which schemes are within others."""

from leastneeds.errors import InvalidScheme
from leastneeds.improvement import covers, improved, is_clear, is_steady
from leastneeds.kinds import put, var
from leastneeds.needs import put_needs, variables_in
from leastneeds.schemes import Scheme
from leastneeds.search import Context
from leastneeds.shapes import is_scheme_in
from leastneeds.uniting import fits


def within(program, one, other):
    """None if a scheme is not within another one; otherwise the kinds for its variables, and papers."""
    book = program.book
    for value in (one, other):
        if not is_clear_scheme(book, value):
            raise InvalidScheme(value)
    by = fits([other.kind], [one.kind])
    if by is None or not is_steady(book, [one.kind], one.needs):
        return None
    # Variables that the kind does not have are found by improving; they are no variables of the other one.
    apart = {name: var("1" + name) for name in other.variables if name not in by}
    first = {name: by.get(name, apart.get(name)) for name in other.variables}
    then = improved(book, put_needs(other.needs, first), one.needs, one.variables)
    if then is None:
        return None
    kinds = {name: put(first[name], then) for name in first}
    needs = put_needs(other.needs, kinds)
    # A variable that improving leaves would stand in a need that nothing settles, so that is not met.
    if not covers(one.variables, variables_in(needs)):
        return None
    context = Context(program, *one.needs)
    papers = tuple([context.paper(need) for need in needs])
    return None if None in papers else (kinds, papers)


def is_clear_scheme(book, value):
    """Whether any value is a clear scheme of the program of a book."""
    if not isinstance(value, Scheme) or not is_scheme_in(book, value):
        return False
    return is_clear(book, [value.kind], value.needs)
