"""What needs tell by themselves: which kinds they settle, what they come down to, and whether there is hope."""

from leastneeds.charts import chart_of, had_by, plan_of
from leastneeds.kinds import put, text_of, var, variables_of
from leastneeds.needs import need_rank, need_key, put_needs, variables_in
from leastneeds.uniting import composed, fits, unite_beside


def improved(book, needs, given, fixed):
    """A most general dict by which needs are improved beside given ones, or None."""
    rigid = list(fixed) + list(variables_in(given))
    found = {}
    while True:
        now = put_needs(needs, found) + list(given)
        then = unite_beside(settled_pairs(book, had_by(book, now)), rigid)
        if then is None:
            return None
        if len(then) == 0:
            return found
        found = composed(found, then)


def settled_pairs(book, needs):
    """The pairs of kinds that have to be the same, because needs and cases settle them."""
    found = []
    seen = {}
    for need in needs:
        for i, j in book.roles[need[0]].settles:
            settled = need[1 + j]
            first = seen.setdefault((need[0], i, text_of(need[1 + i])), settled)
            found.append((settled, first))
            for case in book.cases_at(need[0]):
                by = fits([case.kinds[i]], [need[1 + i]])
                if by is not None:
                    found.append((settled, put(case.kinds[j], by)))
    return found


def least_of(book, needs):
    """The least context of needs that no improvement changes, a tuple."""
    return least_among(book, reduced([plan_of(book, need) for need in needs]))


def least_among(book, rows):
    """The least context of different needs that no case fits, a tuple."""
    if len(rows) < 2:
        return tuple(rows)
    charts = [chart_of(book, [need]) for need in rows]
    found = []
    for k, need in enumerate(rows):
        word = need_key(need)
        if not any([word in chart for chart in charts[:k] + charts[k + 1 :]]):
            found.append(need)
    return tuple(sorted(found, key=need_rank))


def reduced(plans):
    """The needs that no case fits to which the needs of plans come down, each once, a list."""
    found = {}
    for plan in plans:
        for part, word, name, _ in plan:
            if name is None:
                found[word] = part
    return list(found.values())


def is_hopeless(book, given, need, fixed):
    """Whether a need is hopeless beside a given context."""
    rigid = list(fixed) + list(variables_in(given))
    return is_hopeless_plan(book, plan_of(book, need), had_by(book, given), rigid)


def is_hopeless_plan(book, plan, had, rigid):
    """Whether the need of a plan is hopeless beside all that a given context has."""
    found = {}
    word = ""
    for part, word, name, parts in plan:
        if any([can_be_same(part, other, rigid) for other in had]):
            found[word] = False
        elif name is None:
            found[word] = not can_fit(book, part, rigid)
        else:
            found[word] = any([found[inner] for inner in parts])
    # The need itself comes last.
    return found[word]


def can_be_same(need, other, rigid):
    """Whether kinds for variables that are not rigid make two needs the same."""
    if need[0] != other[0]:
        return False
    return unite_beside(list(zip(need[1:], other[1:])), rigid) is not None


def can_fit(book, need, rigid):
    """Whether kinds for variables that are not rigid make a need fit a case."""
    for case in book.cases_at(need[0]):
        # No other need has variables of these names.
        if can_be_same(need, (need[0],) + tuple(kinds_apart(case.kinds)), rigid):
            return True
    return False


def kinds_apart(kinds):
    """The kinds with variables that are named like no others, a list."""
    by = {name: var("1" + name) for name in variables_of(*kinds)}
    return [put(kind, by) for kind in kinds]


def known_by(book, kinds, needs):
    """The variables that are known by kinds and a context of needs, a list."""
    rows = []
    for need in had_by(book, needs):
        for i, j in book.roles[need[0]].settles:
            rows.append((variables_of(need[1 + i]), variables_of(need[1 + j])))
    found = list(variables_of(*kinds))
    more = True
    while more:
        new = [name for ahead, then in rows if covers(found, ahead) for name in then if name not in found]
        more = len(new) > 0
        found.extend(new)
    return found


def covers(names, others):
    """Whether all others are among the names."""
    return all([name in names for name in others])


def is_clear(book, kinds, needs):
    """Whether all variables of needs are known by kinds and these needs."""
    return covers(known_by(book, kinds, needs), variables_in(needs))


def is_steady(book, kinds, needs):
    """Whether needs are clear with kinds, and improved as they are."""
    return is_clear(book, kinds, needs) and improved(book, needs, (), ()) == {}
