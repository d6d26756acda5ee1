"""Making kinds the same: by kinds for the variables of both sides, or of one side alone."""

from leastneeds.kinds import put


def unite(pairs):
    """A most general dict that makes the two kinds of each pair the same, or None."""
    return unite_beside(pairs, ())


def unite_beside(pairs, fixed):
    """As `unite`, but the variables with names in `fixed` stand for themselves alone."""
    found = {}
    waiting = [(one, other) for one, other in pairs]
    waiting.reverse()
    while waiting:
        one, other = waiting.pop()
        one = followed(one, found)
        other = followed(other, found)
        if one == other:
            continue
        if is_free(other, fixed) and not is_free(one, fixed):
            one, other = other, one
        if is_free(one, fixed):
            if stands_in(one[1], other, found):
                return None
            found[one[1]] = other
        elif one[0] == "apply" and other[0] == "apply":
            waiting.append((one[2], other[2]))
            waiting.append((one[1], other[1]))
        else:
            return None
    return {name: resolved(found[name], found) for name in found}


def is_free(kind, fixed):
    """Whether a kind is a variable that may be replaced."""
    return kind[0] == "var" and kind[1] not in fixed


def followed(kind, found):
    """The kind for which a kind stands, as far as its first step is known."""
    while kind[0] == "var" and kind[1] in found:
        kind = found[kind[1]]
    return kind


def stands_in(name, kind, found):
    """Whether a variable stands in a kind, also by way of what is known of other variables."""
    seen = set()
    waiting = [kind]
    while waiting:
        part = waiting.pop()
        if part[0] == "apply":
            waiting.append(part[1])
            waiting.append(part[2])
        elif part == ("var", name):
            return True
        elif part[0] == "var" and part[1] in found and part[1] not in seen:
            seen.add(part[1])
            waiting.append(found[part[1]])
    return False


def resolved(kind, found):
    """The kind with all that is known put in."""
    if kind[0] == "apply":
        return ("apply", resolved(kind[1], found), resolved(kind[2], found))
    if kind[0] == "var" and kind[1] in found:
        return resolved(found[kind[1]], found)
    return kind


def composed(first, then):
    """The dict that does what `first` does and then what `then` does."""
    found = {name: put(first[name], then) for name in first}
    for name in then:
        if name not in found:
            found[name] = then[name]
    return found


def fits(patterns, kinds):
    """The dict by which each pattern becomes the kind at its index, or None."""
    found = {}
    waiting = list(zip(patterns, kinds))
    waiting.reverse()
    while waiting:
        pattern, kind = waiting.pop()
        if pattern[0] == "var":
            if pattern[1] in found and not is_same_kind(found[pattern[1]], kind):
                return None
            found[pattern[1]] = kind
        elif pattern[0] == "apply" and kind[0] == "apply":
            waiting.append((pattern[2], kind[2]))
            waiting.append((pattern[1], kind[1]))
        elif pattern[0] != kind[0] or pattern[1] != kind[1]:
            return None
    return found


def is_same_kind(one, other):
    """Whether two kinds are the same."""
    # Kinds in runs may be nested deeper than Python compares tuples.
    waiting = [(one, other)]
    while waiting:
        one, other = waiting.pop()
        if one[0] == "apply" and other[0] == "apply":
            waiting.append((one[2], other[2]))
            waiting.append((one[1], other[1]))
        elif one[0] != other[0] or one[1] != other[1]:
            return False
    return True
