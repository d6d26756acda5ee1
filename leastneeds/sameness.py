"""Whether two schemes are the same but for the names of their variables.

`==` of schemes comes here, so nothing is changed on the way: new lists and dicts are made instead.
"""

from leastneeds.kinds import leaves_of, put, var, variables_of
from leastneeds.needs import need_key, put_need, variables_in

# What stands for every variable where names do not count.
ANY = ("var", "*")


def same_scheme(kind, needs, other_kind, other_needs):
    """Whether the kinds and the sets of needs are the same, but for names."""
    names = renamed(({}, {}), [kind], [other_kind])
    if names is None:
        return False
    own = told_once(needs)
    others = told_once(other_needs)
    if len(own) != len(others):
        return False
    if all([name in names[0] for name in variables_in(own)]):
        return same_by_names(own, others, names[0])
    return same_unknown(own, others, names)


def told_once(needs):
    """The needs, each once, a list."""
    return list({need_key(need): need for need in needs}.values())


def same_by_names(needs, others, names):
    """Whether needs become the others by names for all of their variables."""
    by = {name: var(names[name]) for name in names}
    keys = sorted([need_key(put_need(need, by)) for need in needs])
    return keys == sorted([need_key(need) for need in others])


def same_unknown(needs, others, names):
    """As `same_by_names`, where some variables have no name yet."""
    one = start_colours(names[0], list(names[0]), needs)
    other = start_colours(names[1], list(names[0].values()), others)
    colours = coloured(one, needs, other, others)
    if sorted(list(colours[0].values())) != sorted(list(colours[1].values())):
        return False
    return same_needs(needs, others, names, colours)


def start_colours(known, row, needs):
    """A dict from all variables to their colours: those that are known are told apart, all others are not.

    `row` has those that are known, in the order in which they are told apart.
    """
    found = {name: "-" + str(k) for k, name in enumerate(row)}
    others = {name: "+" for name in variables_in(needs) if name not in known}
    return {**found, **others}


def coloured(one, needs, other, others):
    """Colours of the variables of two sides: what may be the same has one colour.

    Two dicts, from `one` and `other`, in which variables with other neighbours have got other colours.
    """
    while True:
        rows = looks_of(one, needs)
        other_rows = looks_of(other, others)
        looks = sorted(set(list(rows.values()) + list(other_rows.values())))
        numbers = {look: str(k) for k, look in enumerate(looks)}
        if len(looks) == len(set(list(one.values()) + list(other.values()))):
            return one, other
        one = {name: numbers[rows[name]] for name in rows}
        other = {name: numbers[other_rows[name]] for name in other_rows}


def looks_of(colours, needs):
    """A dict from variables to texts: their colours, and the needs in which they stand, in colours."""
    return {name: ", ".join([colours[name]] + looks_at(name, colours, needs)) for name in colours}


def looks_at(name, colours, needs):
    """The texts of the needs in which a variable stands, with colours for variables, ascending."""
    by = {other: var("*" if other == name else colours[other]) for other in colours}
    return sorted([need_key(put_need(need, by)) for need in needs if name in variables_in([need])])


def renamed(names, kinds, others):
    """The names with those by which `kinds` become `others`; None if there are none.

    Names are two dicts, from variables to variables: there and back.
    """
    if [bare(kind) for kind in kinds] != [bare(kind) for kind in others]:
        return None
    rows = list(zip(variable_leaves(kinds), variable_leaves(others)))
    there = {**names[0], **{name: names[0].get(name, other) for name, other in rows}}
    back = {**names[1], **{other: names[1].get(other, name) for name, other in rows}}
    if not all([there[name] == other and back[other] == name for name, other in rows]):
        return None
    return there, back


def bare(kind):
    """The kind with one variable in the place of all of its own."""
    return put(kind, {name: ANY for name in variables_of(kind)})


def variable_leaves(kinds):
    """The names of the variables of kinds, each as often as it stands there, a list."""
    return [leaf[1] for leaf in leaves_of(*kinds) if leaf[0] == "var"]


def same_needs(needs, others, names, colours):
    """Whether the names can be added to so that the needs become the others, each of them once."""
    if len(needs) != len(others):
        return False
    left = clusters(others, names[1])
    # To be the same is an equivalence, so any cluster that a cluster can become is as good as another.
    for cluster in clusters(needs, names[0]):
        at = index_of_same(cluster, left, names, colours)
        if at is None:
            return False
        left = left[:at] + left[at + 1 :]
    return left == []


def index_of_same(cluster, rows, names, colours):
    """The index of a row of needs that a cluster can become, or None."""
    for k, row in enumerate(rows):
        if same_cluster(cluster, row, names, colours):
            return k
    return None


def same_cluster(needs, others, names, colours):
    """As `same_needs`, of needs that hang together."""
    if len(needs) != len(others):
        return False
    at = index_of_known(needs, names[0])
    need = needs[at]
    rest = needs[:at] + needs[at + 1 :]
    for k, other in enumerate(others):
        if may_become(need, other, colours):
            more = renamed(names, need[1:], other[1:])
            if more is not None and same_needs(rest, others[:k] + others[k + 1 :], more, colours):
                return True
    return False


def may_become(need, other, colours):
    """Whether a need has the role of another one, and its variables have the colours of those there."""
    own = [colours[0][name] for name in variable_leaves(need[1:])]
    return need[0] == other[0] and own == [colours[1][name] for name in variable_leaves(other[1:])]


def index_of_known(needs, names):
    """The index of the need that has the most names already: it leaves the fewest ways to try."""
    ranks = [(len([name for name in variables_in([need]) if name in names]), -k) for k, need in enumerate(needs)]
    return -max(ranks)[1]


def clusters(needs, names):
    """The needs in lists of those that hang together by variables that have no name yet."""
    found = []
    for need in needs:
        marks = [name for name in variables_in([need]) if name not in names]
        near = [row for row in found if any([name in marks for name in row[1]])]
        apart = [row for row in found if not any([name in marks for name in row[1]])]
        joined = [other for row in reversed(near) for other in row[0]] + [need]
        found = apart + [(joined, [name for name in variables_in(joined) if name not in names])]
    return [row[0] for row in found]
