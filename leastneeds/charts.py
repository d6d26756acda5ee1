"""What contexts have, and what needs come down to by cases."""

from leastneeds.kinds import size_of
from leastneeds.needs import need_key, put_needs
from leastneeds.uniting import fits

# What so many needs come to is kept at most.
MOST_KEPT = 4000


def needs_above(book, need):
    """The needs above the role of a need, at its kinds, a list."""
    role = book.roles[need[0]]
    return put_needs(role.above, dict(zip(role.variables, need[1:])))


def case_at(book, need):
    """The name of the case that a need fits and the list of its parts; None if it fits none."""
    for case in book.cases_near(need):
        by = fits(case.kinds, need[1:])
        if by is not None:
            return case.name, put_needs(case.needs, by)
    return None


def steps_from(book, need, parts):
    """The steps that lead from a need with these parts, tuples (step, need, its key), in the order of steps."""
    found = [(("above", k), other, need_key(other)) for k, other in enumerate(needs_above(book, need))]
    found.extend([(("part", k), other, need_key(other)) for k, other in enumerate(parts)])
    return found


def look_at(book, need, key):
    """The name of the case that the need with this key fits, or None, and the steps that lead from it.

    What is found is kept in the book.
    """
    found = book.looks.get(key)
    if found is None:
        if len(book.looks) >= MOST_KEPT:
            book.looks = {}
        name, parts = case_at(book, need) or (None, [])
        found = (name, steps_from(book, need, parts))
        book.looks[key] = found
    return found


def chart_of(book, needs):
    """All that a context of these needs has, a dict from the keys of the needs.

    It leads to tuples (need, paper) with the first paper "given", in the order of these papers.
    """
    found = {}
    level = [(need, need_key(need), ("given", k, ())) for k, need in enumerate(needs)]
    while level:
        later = []
        # A level is in order, so a need that is met here first has its first paper here.
        for need, key, paper in level:
            if key not in found:
                found[key] = (need, paper)
                for step, other, other_key in look_at(book, need, key)[1]:
                    later.append((other, other_key, ("given", paper[1], paper[2] + (step,))))
        level = later
    return found


def had_by(book, needs):
    """All needs that a context of these needs has, a list."""
    return [row[0] for row in chart_of(book, needs).values()]


def plan_of(book, need):
    """The need and all that it comes down to by cases, smaller needs ahead of larger ones.

    A list of tuples (need, its key, the name of its case or None, the keys of its parts).
    """
    rows = []
    seen = set()
    waiting = [(need, need_key(need))]
    while waiting:
        part, key = waiting.pop()
        if key not in seen:
            seen.add(key)
            name, steps = look_at(book, part, key)
            inner = [(other, other_key) for step, other, other_key in steps if step[0] == "part"]
            rows.append((part, key, name, [row[1] for row in inner]))
            waiting.extend(inner)
    return rows if len(rows) == 1 else sorted(rows, key=need_size)


def need_size(row):
    """The size of the kinds of the need of a row."""
    kinds = row[0][1:]
    return size_of(*kinds)


def met_in(plan, chart):
    """Which needs of a plan are met in a chart, a dict of True and False from their keys."""
    found = {}
    for _, word, name, parts in plan:
        found[word] = word in chart or (name is not None and all([found[part] for part in parts]))
    return found


def is_met(book, chart, need):
    """Whether a need is met in a chart."""
    return met_in(plan_of(book, need), chart)[need_key(need)]


def are_met(book, needs, others):
    """Whether a context of needs meets all others."""
    chart = chart_of(book, needs)
    return all([is_met(book, chart, other) for other in others])


def first_paper(plan, chart):
    """The first paper for the largest need of a plan, or None."""
    found = {}
    for _, word, name, parts in plan:
        best = None
        if word in chart:
            paper = chart[word][1]
            best = (1 + len(paper[2]), paper)
        inner = [found[part] for part in parts]
        if name is not None and None not in inner:
            size = 1 + sum([row[0] for row in inner])
            # Of one size "given" comes first.
            if best is None or size < best[0]:
                best = (size, ("case", name, tuple([row[1] for row in inner])))
        found[word] = best
    last = found[plan[-1][1]]
    return None if last is None else last[1]


def lacking_needs(plan, chart):
    """The needs of a paper of lacking for the largest need of a plan, a tuple; None if it is met."""
    met = met_in(plan, chart)
    rows = {row[1]: row for row in plan}
    word = plan[-1][1]
    if met[word]:
        return None
    found = []
    while word is not None:
        need, _, _, parts = rows[word]
        found.append(need)
        # The parts are smaller, so this comes to an end.
        lacked = [part for part in parts if not met[part]]
        word = lacked[0] if lacked else None
    return tuple(found)
