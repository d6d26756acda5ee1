"""What the declarations of a program say, by names."""

from leastneeds.basics import BASIC_KINDS, basic_declarations
from leastneeds.declarations import Case, Data, Definition, Role
from leastneeds.primitives import Primitives


class Book:
    """The declarations of a program and the built-in ones, each under its name.

    Names are declared once, and every Derive has its case by now or is left out.
    """

    def __init__(self, declarations, derived):
        self.lacks = dict(BASIC_KINDS)
        self.data = {}
        self.roles = {}
        self.cases = {}
        self.definitions = {}
        self.constructors = {}
        self.members = {}
        self.cases_by_role = {}
        self.shapes = {}
        for declaration in basic_declarations() + list(declarations) + list(derived):
            if isinstance(declaration, Data):
                self.write_data(declaration)
            elif isinstance(declaration, Role):
                self.write_role(declaration)
            elif isinstance(declaration, Case):
                self.write_case(declaration)
            elif isinstance(declaration, Definition):
                self.definitions[declaration.name] = declaration

    def write_data(self, data):
        self.lacks[data.name] = len(data.variables)
        self.data[data.name] = data
        for constructor, _ in data.constructors:
            self.constructors[constructor] = data.name

    def write_role(self, role):
        self.roles[role.name] = role
        for member in role.members:
            self.members[member[0]] = role.name

    def write_case(self, case):
        self.cases[case.name] = case
        self.cases_by_role.setdefault(case.role, []).append(case)

    def cases_at(self, role):
        """The cases of a role, a list."""
        return list(self.cases_by_role.get(role, []))

    def is_term_name(self, word):
        """Whether a string is declared as a name that a term may have."""
        return (
            word in self.constructors
            or word in self.members
            or word in self.definitions
            or word in Primitives.NAMES
        )

    def fields_of(self, constructor):
        """The kinds of the fields of a constructor, over the variables of its data."""
        rows = self.data[self.constructors[constructor]].constructors
        return dict(rows)[constructor]
