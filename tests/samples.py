"""Programs and short words that several tests use."""

from leastneeds.declarations import Case, Data, Role
from leastneeds.kinds import con, to, var
from leastneeds.program import Program

A, B, C, D, F, G = [var(name) for name in "abcdfg"]
WHOLE, TEXT, TRUTH = con("whole"), con("text"), con("truth")


def listed(kind):
    return con("list", kind)


def pair(one, other):
    return con("pair", one, other)


def used(kind, *parts):
    for part in parts:
        kind = ("apply", kind, part)
    return kind


LIST = Data("list", ("a",), (("nil", ()), ("cons", (A, listed(A)))))
PAIR = Data("pair", ("a", "b"), (("two", (A, B)),))
UNIT = Data("unit", (), (("one", ()),))

def role(name, *above, variables=("a",), settles=(), kind=None):
    """A role with one member that has a default."""
    told = kind or to(*[var(word) for word in variables], WHOLE)
    return Role(name, variables, [(name + "m", told, (), ("name", name + "m"))], above=above, settles=settles)


def case(name, word, kinds, *needs):
    """A case whose members are all defaults."""
    return Case(name, word, kinds, (), needs=needs)


def lattice():
    """Roles low, mid, side, top, one above another, with cases at lists and pairs."""
    return Program(
        LIST,
        PAIR,
        role("low"),
        role("mid", ("low", A)),
        role("side", ("low", A)),
        role("top", ("mid", A), ("side", A)),
        case("lowlist", "low", [listed(A)], ("low", A)),
        case("lowpair", "low", [pair(A, B)], ("low", A), ("low", B)),
        case("lowwhole", "low", [WHOLE]),
        case("midlist", "mid", [listed(A)], ("low", A)),
        case("midpair", "mid", [pair(A, B)], ("mid", A), ("low", B)),
        case("sidelist", "side", [listed(A)], ("side", A)),
        case("toplist", "top", [listed(A)], ("top", A), ("side", A)),
    )


def settling():
    """Roles whose places settle one another."""
    two = ("a", "b")
    return Program(
        LIST,
        PAIR,
        role("turns", variables=two, settles=((0, 1),)),
        role("back", variables=two, settles=((1, 0),)),
        role("both", variables=two, settles=((0, 1), (1, 0))),
        role("loose", variables=two),
        role("over", ("turns", A, B), variables=two),
        role("plain"),
        case("turnw", "turns", [WHOLE, TEXT]),
        case("turnl", "turns", [listed(A), pair(A, A)]),
        case("backt", "back", [TRUTH, TEXT]),
        case("bothl", "both", [listed(A), pair(A, WHOLE)], ("plain", A)),
        case("loosel", "loose", [listed(A), B], ("turns", A, B)),
        case("plainw", "plain", [WHOLE]),
        case("plainl", "plain", [listed(A)], ("plain", A)),
    )
