"""What the declarations of a program say, by names."""

from leastneeds.basics import BASIC_KINDS, basic_cases, basic_data, basic_roles
from leastneeds.declarations import Case, Data, Definition, Role
from leastneeds.primitives import Primitives


class Book:
    """The declarations of a program and the built-in ones, each under its name.

    Names are declared once. The cases of derives are written later.
    """

    def __init__(self, declarations):
        self.lacks = dict(BASIC_KINDS)
        self.data = {}
        self.roles = {}
        self.cases = {}
        self.definitions = {}
        self.constructors = {}
        self.members = {}
        # Of each role: its cases, by what the first kind of their heads begins with, "" for a variable.
        self.heads = {}
        self.shapes = {}
        # What needs come to, as far as it was asked for, by the keys of the needs.
        self.looks = {}
        # The first papers for needs above cases, as far as they were asked for, by case and index.
        self.papers_above = {}
        for data in basic_data():
            self.write_data(data)
        for role in basic_roles():
            self.write_role(role)
        for case in basic_cases():
            self.write_case(case)
        for declaration in declarations:
            self.write(declaration)

    def write(self, declaration):
        if isinstance(declaration, Data):
            self.write_data(declaration)
        elif isinstance(declaration, Role):
            self.write_role(declaration)
        elif isinstance(declaration, Case):
            self.write_case(declaration)
        elif isinstance(declaration, Definition):
            self.definitions[declaration.name] = declaration

    def write_data(self, data):
        self.lacks[data.name] = len(data.variables)
        self.data[data.name] = data
        for constructor, _ in data.constructors:
            self.constructors[constructor] = data.name

    def write_role(self, role):
        self.roles[role.name] = role
        for member in role.members:
            self.members[member[0]] = role.name

    def write_case(self, case):
        """Write a case, in the place of an earlier one with its name and its head."""
        self.cases[case.name] = case
        self.looks = {}
        rows = self.heads.setdefault(case.role, {})
        word = word_ahead(case.kinds[0])
        rows[word] = [row for row in rows.get(word, []) if row.name != case.name] + [case]

    def cases_at(self, role):
        """The cases of a role, a list."""
        return [case for rows in self.heads.get(role, {}).values() for case in rows]

    def cases_near(self, need):
        """The cases of the role of a need that it may fit, a list."""
        rows = self.heads.get(need[0], {})
        word = word_ahead(need[1])
        if word == "" or "" not in rows:
            return rows.get(word, [])
        return rows.get(word, []) + rows[""]

    def is_term_name(self, word):
        """Whether a string is declared as a name that a term may have."""
        return (
            word in self.constructors
            or word in self.members
            or word in self.definitions
            or word in Primitives.NAMES
        )

    def fields_of(self, constructor):
        """The kinds of the fields of a constructor, over the variables of its data."""
        for name, fields in self.data[self.constructors[constructor]].constructors:
            if name == constructor:
                return fields
        return ()


def word_ahead(kind):
    """The name of the constructor with which a kind begins, "" if it begins with a variable."""
    while kind[0] == "apply":
        kind = kind[1]
    return kind[1] if kind[0] == "con" else ""
