"""Whether two schemes are the same but for the names of their variables."""

from leastneeds.kinds import var, variables_of
from leastneeds.needs import different, need_text, put_need, variables_in
from leastneeds.uniting import fits


def same_scheme(kind, needs, other_kind, other_needs):
    """Whether the kinds and the sets of needs are the same, but for names."""
    own = different(needs)
    others = different(other_needs)
    colours = coloured(start_colours(kind, own), own, start_colours(other_kind, others), others)
    if sorted(colours[0].values()) != sorted(colours[1].values()):
        return False
    names = renamed(({}, {}), colours, [kind], [other_kind])
    return names is not None and same_needs(own, others, names, colours)


def start_colours(kind, needs):
    """A dict from all variables to their colours: the variables of the kind are told apart, all others are not."""
    found = {}
    for name in variables_in(needs):
        found[name] = "+"
    for k, name in enumerate(variables_of(kind)):
        found[name] = "-" + str(k)
    return found


def coloured(one, needs, other, others):
    """Colours of the variables of two sides: what may be the same has one colour.

    Two dicts, from `one` and `other`, in which variables with other neighbours have got other colours.
    """
    while True:
        rows = looks_of(one, needs)
        other_rows = looks_of(other, others)
        looks = sorted(set(list(rows.values()) + list(other_rows.values())))
        numbers = {look: str(k) for k, look in enumerate(looks)}
        if len(looks) == len(set(list(one.values()) + list(other.values()))):
            return one, other
        one = {name: numbers[rows[name]] for name in rows}
        other = {name: numbers[other_rows[name]] for name in other_rows}


def looks_of(colours, needs):
    """A dict from variables to texts: their colours, and the needs in which they stand, in colours."""
    return {name: ", ".join([colours[name]] + looks_at(name, colours, needs)) for name in colours}


def looks_at(name, colours, needs):
    """The texts of the needs in which a variable stands, with colours for variables, ascending."""
    by = {other: var("*" if other == name else colours[other]) for other in colours}
    return sorted([need_text(put_need(need, by)) for need in needs if name in variables_in([need])])


def renamed(names, colours, kinds, others):
    """The names with those by which `kinds` become `others`; None if there are none.

    Names are two dicts, from variables to variables: there and back.
    """
    by = fits(kinds, others)
    if by is None:
        return None
    there = dict(names[0])
    back = dict(names[1])
    for name in by:
        if by[name][0] != "var":
            return None
        other = by[name][1]
        if there.get(name, other) != other or back.get(other, name) != name:
            return None
        if colours[0][name] != colours[1][other]:
            return None
        there[name] = other
        back[other] = name
    return there, back


def same_needs(needs, others, names, colours):
    """Whether the names can be added to so that the needs become the others, each of them once."""
    if len(needs) != len(others):
        return False
    left = clusters(others, names[1])
    # To be the same is an equivalence, so any cluster that a cluster can become is as good as another.
    for cluster in clusters(needs, names[0]):
        at = index_of_same(cluster, left, names, colours)
        if at is None:
            return False
        left = left[:at] + left[at + 1 :]
    return left == []


def index_of_same(cluster, rows, names, colours):
    """The index of a row of needs that a cluster can become, or None."""
    for k, row in enumerate(rows):
        if same_cluster(cluster, row, names, colours):
            return k
    return None


def same_cluster(needs, others, names, colours):
    """As `same_needs`, of needs that hang together."""
    if len(needs) != len(others):
        return False
    at = index_of_known(needs, names[0])
    need = needs[at]
    rest = needs[:at] + needs[at + 1 :]
    for k, other in enumerate(others):
        if need[0] == other[0] and len(need) == len(other):
            more = renamed(names, colours, need[1:], other[1:])
            if more is not None and same_needs(rest, others[:k] + others[k + 1 :], more, colours):
                return True
    return False


def index_of_known(needs, names):
    """The index of the need that has the most names already: it leaves the fewest ways to try."""
    ranks = [(len([name for name in variables_in([need]) if name in names]), -k) for k, need in enumerate(needs)]
    return -max(ranks)[1]


def clusters(needs, names):
    """The needs in lists of those that hang together by variables that have no name yet."""
    found = []
    for need in needs:
        marks = [name for name in variables_in([need]) if name not in names]
        joined = [need]
        apart = []
        for row, row_marks in found:
            if any([name in marks for name in row_marks]):
                joined = row + joined
            else:
                apart = apart + [(row, row_marks)]
        free = [name for name in variables_in(joined) if name not in names]
        found = apart + [(joined, free)]
    return [row for row, _ in found]
