"""Programs: declarations that belong together."""

from leastneeds.basics import WrittenCase, WrittenData, WrittenRole, plain_case, plain_data, plain_role
from leastneeds.book import Book
from leastneeds.checks import check_arms, check_forms, check_names, check_repeats, checked_shapes
from leastneeds.deriving import write_cases, write_needs
from leastneeds.errors import Faulty, UnknownName
from leastneeds.findings import Findings
from leastneeds.program_reading import program_from
from leastneeds.rules import (
    check_clashes,
    check_cover,
    check_growth,
    check_members,
    check_rings,
    check_steadiness,
    check_support,
)
from leastneeds.wheres import is_where


class Program:
    """The declarations of a program, with the built-in ones beside them."""

    def __init__(self, *declarations, picks=()):
        self.book = checked_book(declarations, picks)
        self.declarations = declarations
        self.picks = tuple(picks)
        self.findings = Findings(self.book, self.picks)
        self.faults = self.findings.all_faults(declarations)
        self.is_right = len(self.faults) == 0

    @classmethod
    def of(cls, declarations, *, picks=()):
        """The program of a sequence of declarations."""
        return cls(*declarations, picks=picks)

    @classmethod
    def read(cls, text):
        """The program with this text."""
        declarations, picks = program_from(text)
        return cls(*declarations, picks=picks)

    def __eq__(self, other):
        return (
            isinstance(other, Program)
            and self.declarations == other.declarations
            and self.picks == other.picks
        )

    def with_more(self, *declarations):
        """The program with these declarations behind its own."""
        every = self.declarations + declarations
        return Program(*every, picks=self.picks)

    def data_named(self, name):
        """The data with this name."""
        found = named_in(self.book.data, name)
        return plain_data(found) if isinstance(found, WrittenData) else found

    def role_named(self, name):
        """The role with this name."""
        found = named_in(self.book.roles, name)
        return plain_role(found) if isinstance(found, WrittenRole) else found

    def case_named(self, name):
        """The case with this name; for a derive the case that it stands for."""
        found = named_in(self.book.cases, name)
        return plain_case(found) if isinstance(found, WrittenCase) else found

    def definition_named(self, name):
        """The definition with this name."""
        return named_in(self.book.definitions, name)

    def cases_of(self, role):
        """The names of all cases of a role, ascending."""
        named_in(self.book.roles, role)
        return tuple(sorted([case.name for case in self.book.cases_at(role)]))

    def scheme(self, name):
        """The scheme of a constructor, primitive, member or definition; Faulty for one with a fault."""
        if not isinstance(name, str) or not self.book.is_term_name(name):
            raise UnknownName(name)
        if name in self.findings.faulty:
            raise Faulty(("definition", name))
        return self.findings.schemes.at(name)

    def fault(self, where):
        """The fault at a where, or None."""
        if not is_where(self.book, where):
            raise UnknownName(where)
        return self.findings.fault_in(where)


def named_in(table, name):
    """What a dict has for a name; UnknownName for any value that is none of its names."""
    if not isinstance(name, str) or name not in table:
        raise UnknownName(name)
    return table[name]


def checked_book(declarations, picks):
    """The book of the declarations of a program; the first error if something is wrong with them."""
    check_forms(declarations, picks)
    check_repeats(declarations)
    book = Book(declarations)
    check_names(book, declarations, picks)
    check_arms(book, declarations)
    write_cases(book, declarations)
    book.shapes = checked_shapes(book, declarations, picks)
    check_rings(book, declarations)
    check_members(book, declarations)
    check_growth(declarations)
    check_cover(book, declarations)
    check_clashes(book, declarations)
    write_needs(book, declarations)
    check_support(book, declarations)
    check_steadiness(book, declarations)
    return book
