"""The declarations that every program has besides its own.

They stand here as plain tuples, so that nothing has to be looked at when a program is made.
"""

from leastneeds.declarations import Case, Data, Role

# The kinds that are no data of the program, with the number of parts that they lack.
BASIC_KINDS = {"whole": 0, "text": 0, "to": 2, "truth": 0}

# All names that are taken before a program declares any, each with the word of its space.
TAKEN = {
    ("kind", "whole"): True,
    ("kind", "text"): True,
    ("kind", "to"): True,
    ("kind", "truth"): True,
    ("role", "same"): True,
    ("role", "order"): True,
    ("role", "words"): True,
    ("case", "swhole"): True,
    ("case", "stext"): True,
    ("case", "struth"): True,
    ("case", "owhole"): True,
    ("case", "otext"): True,
    ("case", "otruth"): True,
    ("case", "wwhole"): True,
    ("case", "wtext"): True,
    ("case", "wtruth"): True,
    ("term", "no"): True,
    ("term", "yes"): True,
    ("term", "alike"): True,
    ("term", "atmost"): True,
    ("term", "shown"): True,
    ("term", "plus"): True,
    ("term", "minus"): True,
    ("term", "times"): True,
    ("term", "equal"): True,
    ("term", "upto"): True,
    ("term", "join"): True,
    ("term", "size"): True,
    ("term", "eqtext"): True,
    ("term", "uptotext"): True,
    ("term", "spell"): True,
}

TRUTHS = (("no", ()), ("yes", ()))

# 'a -> 'a -> truth and 'a -> text.
COMPARED = (
    "apply",
    ("apply", ("con", "to"), ("var", "a")),
    ("apply", ("apply", ("con", "to"), ("var", "a")), ("con", "truth")),
)
TOLD = ("apply", ("apply", ("con", "to"), ("var", "a")), ("con", "text"))

# given x . given y . match x | no = match y | no = yes | yes = no end | yes = y end
SAME_TRUTHS = (
    "given",
    "x",
    (
        "given",
        "y",
        (
            "match",
            ("name", "x"),
            (
                ("no", (), ("match", ("name", "y"), (("no", (), ("name", "yes")), ("yes", (), ("name", "no"))))),
                ("yes", (), ("name", "y")),
            ),
        ),
    ),
)

# given x . given y . match x | no = yes | yes = y end
ORDERED_TRUTHS = (
    "given",
    "x",
    ("given", "y", ("match", ("name", "x"), (("no", (), ("name", "yes")), ("yes", (), ("name", "y"))))),
)

# given x . match x | no = "no" | yes = "yes" end
TOLD_TRUTHS = (
    "given",
    "x",
    ("match", ("name", "x"), (("no", (), ("text", "no")), ("yes", (), ("text", "yes")))),
)

# given x . x
UNCHANGED = ("given", "x", ("name", "x"))


class WrittenData(Data):
    """Data that the package writes: they have their form."""

    def __init__(self, name, constructors):
        self.name = name
        self.variables = ()
        self.constructors = constructors


class WrittenRole(Role):
    """A role with one member that the package writes: it has its form."""

    def __init__(self, name, member, kind, above):
        self.name = name
        self.variables = ("a",)
        self.members = ((member, kind, (), None),)
        self.above = above
        self.settles = ()


class WrittenCase(Case):
    """A case with one kind that the package writes: it has its form."""

    def __init__(self, name, role, kind, members, needs):
        self.name = name
        self.role = role
        self.kinds = (kind,)
        self.members = members
        self.needs = needs


def basic_data():
    """The built-in data, a list."""
    return [WrittenData("truth", TRUTHS)]


def basic_roles():
    """The built-in roles, a list."""
    return [
        WrittenRole("same", "alike", COMPARED, ()),
        WrittenRole("order", "atmost", COMPARED, (("same", ("var", "a")),)),
        WrittenRole("words", "shown", TOLD, ()),
    ]


def basic_cases():
    """The built-in cases, a list."""
    return [
        basic_case("swhole", "same", "whole", "alike", ("name", "equal")),
        basic_case("stext", "same", "text", "alike", ("name", "eqtext")),
        basic_case("struth", "same", "truth", "alike", SAME_TRUTHS),
        basic_case("owhole", "order", "whole", "atmost", ("name", "upto")),
        basic_case("otext", "order", "text", "atmost", ("name", "uptotext")),
        basic_case("otruth", "order", "truth", "atmost", ORDERED_TRUTHS),
        basic_case("wwhole", "words", "whole", "shown", ("name", "spell")),
        basic_case("wtext", "words", "text", "shown", UNCHANGED),
        basic_case("wtruth", "words", "truth", "shown", TOLD_TRUTHS),
    ]


def basic_case(name, role, kind, member, term):
    """A built-in case at a constructor of kinds."""
    return WrittenCase(name, role, ("con", kind), ((member, term),), ())


def plain_data(data):
    """The data as a program would declare them."""
    return Data(data.name, data.variables, data.constructors)


def plain_role(role):
    """The role as a program would declare it."""
    return Role(role.name, role.variables, role.members, above=role.above, settles=role.settles)


def plain_case(case):
    """The case as a program would declare it."""
    return Case(case.name, case.role, case.kinds, case.members, needs=case.needs)
