"""The members of the cases that the package writes."""

from leastneeds.terms import two_given

NO = ("name", "no")


def member_of(role, data):
    """The name and the term of the member of a derived case of a role for data."""
    if role == "same":
        return ("alike", two_given("one", "other", matched_twice(data, alike_unlike, alike_fields)))
    if role == "order":
        return ("atmost", two_given("one", "other", matched_twice(data, atmost_unlike, atmost_fields)))
    arms = [(name, field_names("a", fields), shown_text(name, fields)) for name, fields in data.constructors]
    return ("shown", ("given", "one", ("match", ("name", "one"), tuple(arms))))


def matched_twice(data, unlike, alike):
    """A match of both arguments, with terms for two unlike constructors and for two like ones.

    `unlike` is called with the indexes of both, `alike` with the number of their fields.
    """
    arms = []
    for k, (name, fields) in enumerate(data.constructors):
        inner = []
        for m, (other, other_fields) in enumerate(data.constructors):
            term = alike(len(fields)) if k == m else unlike(k, m)
            inner.append((other, field_names("b", other_fields), term))
        arms.append((name, field_names("a", fields), ("match", ("name", "other"), tuple(inner))))
    return ("match", ("name", "one"), tuple(arms))


def field_names(letter, fields):
    """The names of the fields of an argument, a tuple."""
    return tuple([field_name(letter, k) for k in range(len(fields))])


def field_name(letter, index):
    return letter + "abcd"[index]


def alike_unlike(index, other):
    return NO


def alike_fields(many):
    """Whether all of so many fields are alike."""
    if many == 0:
        return ("name", "yes")
    found = compared("alike", many - 1)
    for k in reversed(range(many - 1)):
        found = truth_match(compared("alike", k), NO, found)
    return found


def atmost_unlike(index, other):
    return ("name", "yes") if index < other else NO


def atmost_fields(many):
    """Whether so many fields are at most the other ones, as they follow one another."""
    if many == 0:
        return ("name", "yes")
    found = compared("atmost", many - 1)
    for k in reversed(range(many - 1)):
        found = truth_match(compared("alike", k), compared("atmost", k), found)
    return found


def truth_match(subject, no, yes):
    """A match of a truth."""
    return ("match", subject, (("no", (), no), ("yes", (), yes)))


def compared(member, index):
    """The use of a member for the fields of both arguments with this index."""
    return used(("name", member), ("name", field_name("a", index)), ("name", field_name("b", index)))


def used(function, one, other):
    return ("use", ("use", function, one), other)


def shown_text(name, fields):
    """The text of a constructor with its fields."""
    if len(fields) == 0:
        return ("text", name)
    found = ("text", name + " (")
    for k in range(len(fields)):
        behind = ")" if k == len(fields) - 1 else ") ("
        found = joined(found, ("use", ("name", "shown"), ("name", field_name("a", k))))
        found = joined(found, ("text", behind))
    return found


def joined(one, other):
    return used(("name", "join"), one, other)
