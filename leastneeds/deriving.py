"""The cases that derives stand for, and the needs that they come to have."""

from leastneeds.basics import WrittenCase
from leastneeds.charts import plan_of
from leastneeds.declarations import Derive
from leastneeds.derived_terms import member_of
from leastneeds.errors import Underivable
from leastneeds.improvement import is_hopeless_plan, least_among, reduced
from leastneeds.kinds import con, var
from leastneeds.needs import different
from leastneeds.rules import is_smaller


def derives_of(declarations):
    """The derives among declarations, a list."""
    return [row for row in declarations if isinstance(row, Derive)]


def head_of(book, derive):
    """The kind at which a derive has its case."""
    data = book.data[derive.data]
    parts = [var(name) for name in data.variables]
    return con(data.name, *parts)


def wanted_needs(book, derive):
    """The needs that a derived case has before they are reduced, a list."""
    found = []
    for _, fields in book.data[derive.data].constructors:
        found.extend([(derive.role, kind) for kind in fields])
    if derive.role == "order":
        found.append(("same", head_of(book, derive)))
    return found


def write_cases(book, declarations):
    """Write the cases of derives, as yet without needs."""
    for row in derives_of(declarations):
        member = member_of(row.role, book.data[row.data])
        book.write_case(WrittenCase(row.name, row.role, head_of(book, row), (member,), ()))


def write_needs(book, declarations):
    """Write the needs to which rounds lead into the cases of derives."""
    derives = derives_of(declarations)
    while True:
        later = [needs_in_round(book, row) for row in derives]
        if later == [book.cases[row.name].needs for row in derives]:
            return
        for row, needs in zip(derives, later):
            case = book.cases[row.name]
            book.write_case(WrittenCase(case.name, case.role, case.kinds[0], case.members, needs))


def needs_in_round(book, derive):
    """The needs of a derived case, by those that derived cases have now.

    Underivable for the first wanted need that has no hope, or does not become smaller.
    """
    head = [head_of(book, derive)]
    plans = []
    for need in different(wanted_needs(book, derive)):
        plan = plan_of(book, need)
        if is_hopeless_plan(book, plan, [], []):
            raise Underivable(derive.name, need)
        if not all([is_smaller(other, head) for other in least_among(book, reduced([plan]))]):
            raise Underivable(derive.name, need)
        plans.append(plan)
    return least_among(book, reduced(plans))
