"""The declarations that every program has besides its own."""

from leastneeds.declarations import Case, Data, Role
from leastneeds.kinds import con, to, var
from leastneeds.terms import two_given

# The kinds that are no data, with the number of parts that they lack.
BASIC_KINDS = {"whole": 0, "text": 0, "to": 2}


def basic_declarations():
    """The built-in data, roles and cases, a list."""
    return [Data("truth", (), (("no", ()), ("yes", ())))] + basic_roles() + basic_cases()


def basic_roles():
    """The built-in roles, a list."""
    item = var("a")
    compared = to(item, item, con("truth"))
    same = Role("same", ("a",), (("alike", compared, (), None),))
    order = Role("order", ("a",), (("atmost", compared, (), None),), above=(("same", item),))
    words = Role("words", ("a",), (("shown", to(item, con("text")), (), None),))
    return [same, order, words]


def basic_cases():
    """The built-in cases, a list."""
    found = []
    terms = basic_terms()
    for letter, role, member in (("s", "same", "alike"), ("o", "order", "atmost"), ("w", "words", "shown")):
        for kind in ("whole", "text", "truth"):
            name = letter + kind
            found.append(Case(name, role, (con(kind),), ((member, terms[name]),)))
    return found


def basic_terms():
    """The terms of the members of the built-in cases, by the names of the cases."""
    no = ("name", "no")
    yes = ("name", "yes")
    one = ("name", "x")
    other = ("name", "y")
    opposite = ("match", other, (("no", (), yes), ("yes", (), no)))
    return {
        "swhole": ("name", "equal"),
        "stext": ("name", "eqtext"),
        "struth": two_given("x", "y", ("match", one, (("no", (), opposite), ("yes", (), other)))),
        "owhole": ("name", "upto"),
        "otext": ("name", "uptotext"),
        "otruth": two_given("x", "y", ("match", one, (("no", (), yes), ("yes", (), other)))),
        "wwhole": ("name", "spell"),
        "wtext": ("given", "x", one),
        "wtruth": ("given", "x", ("match", one, (("no", (), ("text", "no")), ("yes", (), ("text", "yes"))))),
    }
