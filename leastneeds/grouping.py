"""Rings: names that use one another, in the order in which they may be looked at."""

from leastneeds.terms import free_names


def rings_of(names, uses):
    """The rings of names, a list of lists, each ring behind those that it uses.

    `uses` has for each name those of the names that it uses. Of the rings that may come next the one
    with the first name does.
    """
    rings = joined_names(names, uses)
    home = {name: k for k, ring in enumerate(rings) for name in ring}
    ahead = [rings_ahead(k, ring, uses, home) for k, ring in enumerate(rings)]
    behind = [[] for _ in rings]
    for k, row in enumerate(ahead):
        for other in row:
            behind[other].append(k)
    left = [len(row) for row in ahead]
    ready = [k for k, many in enumerate(left) if many == 0]
    found = []
    while ready:
        # Rings are numbered by their first names, so the least number is due.
        k = min(ready)
        ready.remove(k)
        found.append(rings[k])
        for other in behind[k]:
            left[other] -= 1
            if left[other] == 0:
                ready.append(other)
    return found


def rings_ahead(index, ring, uses, home):
    """The numbers of the other rings that a ring uses, each once, a list."""
    found = sorted({home[other] for name in ring for other in uses[name]})
    return [k for k in found if k != index]


def joined_names(names, uses):
    """The rings in the order of their first names, a list of lists in the order of the names."""
    users = {name: [] for name in names}
    for name in names:
        for other in uses[name]:
            users[other].append(name)
    home = {}
    for start in reversed(finished_names(names, uses)):
        waiting = [start]
        while waiting:
            name = waiting.pop()
            if name not in home:
                home[name] = start
                waiting.extend([other for other in users[name] if other not in home])
    rings = {}
    for name in names:
        rings.setdefault(home[name], []).append(name)
    return list(rings.values())


def finished_names(names, uses):
    """The names, each behind all that are first reached from it, a list."""
    found = []
    seen = set()
    for start in names:
        waiting = [(start, False)]
        while waiting:
            name, is_done = waiting.pop()
            if is_done:
                found.append(name)
            elif name not in seen:
                seen.add(name)
                waiting.append((name, True))
                waiting.extend([(other, False) for other in uses[name]])
    return found


def used_definitions(book, term):
    """The names of the definitions that a term uses, ascending, a tuple."""
    return tuple([name for name in free_names(term) if name in book.definitions])


def definition_rings(book, uses):
    """The rings of the definitions of a book, a tuple of tuples; `uses` has what each one uses."""
    own = {}
    for name in uses:
        own[name] = [other for other in uses[name] if book.definitions[other].told is None]
    return tuple([tuple(ring) for ring in rings_of(list(uses), own)])
