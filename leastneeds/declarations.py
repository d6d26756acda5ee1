"""Declarations: data, roles, cases, definitions and derives."""

from leastneeds.errors import InvalidForm
from leastneeds.forms import (
    are_case_members,
    are_constructors,
    are_names,
    are_needs_above,
    are_needs_over,
    are_role_members,
    is_filled_term,
    is_head,
    is_settling,
)
from leastneeds.names import is_name
from leastneeds.schemes import Scheme

DERIVED_ROLES = ("same", "order", "words")


class Declaration:
    """What a program declares."""


class Data(Declaration):
    """A kind with constructors that make its values."""

    def __init__(self, name, variables, constructors):
        if not is_name(name):
            raise InvalidForm("name")
        if not are_names(variables, 0, 4):
            raise InvalidForm("variables")
        if not are_constructors(constructors, variables):
            raise InvalidForm("constructors")
        self.name = name
        self.variables = tuple(variables)
        self.constructors = tuple([(row[0], tuple(row[1])) for row in constructors])

    def __eq__(self, other):
        return (
            isinstance(other, Data)
            and self.name == other.name
            and self.variables == other.variables
            and self.constructors == other.constructors
        )


class Role(Declaration):
    """Members that are chosen by kinds."""

    def __init__(self, name, variables, members, *, above=(), settles=()):
        if not is_name(name):
            raise InvalidForm("name")
        if not are_names(variables, 1, 2):
            raise InvalidForm("variables")
        if not are_role_members(members):
            raise InvalidForm("members")
        if not are_needs_above(above, name, variables):
            raise InvalidForm("above")
        if not is_settling(settles, variables):
            raise InvalidForm("settles")
        self.name = name
        self.variables = tuple(variables)
        self.members = tuple([(row[0], row[1], tuple(row[2]), row[3]) for row in members])
        self.above = tuple(above)
        self.settles = tuple(settles)

    def __eq__(self, other):
        return (
            isinstance(other, Role)
            and self.name == other.name
            and self.variables == other.variables
            and self.members == other.members
            and self.above == other.above
            and self.settles == other.settles
        )


class Case(Declaration):
    """What the members of a role are at some kinds."""

    def __init__(self, name, role, kinds, members, *, needs=()):
        if not is_name(name):
            raise InvalidForm("name")
        if not is_name(role):
            raise InvalidForm("role")
        if not is_head(kinds):
            raise InvalidForm("kinds")
        if not are_case_members(members):
            raise InvalidForm("members")
        if not are_needs_over(needs, kinds):
            raise InvalidForm("needs")
        self.name = name
        self.role = role
        self.kinds = tuple(kinds)
        self.members = tuple(members)
        self.needs = tuple(needs)

    def __eq__(self, other):
        return (
            isinstance(other, Case)
            and self.name == other.name
            and self.role == other.role
            and self.kinds == other.kinds
            and self.members == other.members
            and self.needs == other.needs
        )


class Definition(Declaration):
    """A term with a name."""

    def __init__(self, name, term, *, told=None):
        if not is_name(name):
            raise InvalidForm("name")
        if not is_filled_term(term):
            raise InvalidForm("term")
        if told is not None and not isinstance(told, Scheme):
            raise InvalidForm("told")
        self.name = name
        self.term = term
        self.told = told

    def __eq__(self, other):
        return (
            isinstance(other, Definition)
            and self.name == other.name
            and self.term == other.term
            and self.told == other.told
        )


class Derive(Declaration):
    """A case that the package writes."""

    def __init__(self, name, role, data):
        if not is_name(name):
            raise InvalidForm("name")
        if not is_name(role) or role not in DERIVED_ROLES:
            raise InvalidForm("role")
        if not is_name(data):
            raise InvalidForm("data")
        self.name = name
        self.role = role
        self.data = data

    def __eq__(self, other):
        return (
            isinstance(other, Derive)
            and self.name == other.name
            and self.role == other.role
            and self.data == other.data
        )
