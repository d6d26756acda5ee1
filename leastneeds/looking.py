"""Whether marked terms are right. Nothing is searched here: only what the marks tell is looked at."""

from leastneeds.grouping import rings_of
from leastneeds.kinds import is_arrow, is_kind, put, spine_of, to, var, variables_of
from leastneeds.marked import check_where, due
from leastneeds.names import is_integer
from leastneeds.needs import is_need, kinds_of, put_needs
from leastneeds.papers import is_paper_among
from leastneeds.terms import are_different_names, free_names
from leastneeds.wheres import term_at


def is_marked(program, where, value):
    """Whether any value is a right marked term for a where."""
    check_where(program, where)
    kind, needs = due(program, where)
    look = Look(program, where, kind)
    try:
        return look.kind_of(term_at(program.book, where), value, {}, list(needs)) == kind
    except NotRight:
        return False


class NotRight(ValueError):
    """A value is not the term with right marks."""


def check(holds):
    """Raise NotRight if something does not hold."""
    if not holds:
        raise NotRight()


class Look:
    """A look at a marked term.

    A scope tells what names stand for that are bound around, by their names: ("one", kind) for a
    parameter, ("own", kind, variables, start, many) for a name of a let in the terms of its ring,
    ("let", kind, variables, needs) for one elsewhere.
    """

    def __init__(self, program, where, kind):
        self.book = program.book
        self.schemes = program.findings.schemes
        # The kind that is due, and the definition whose own term this is, if it has no told scheme.
        self.kind = kind
        self.own = None
        self.ring = ()
        if where[0] == "definition" and self.book.definitions[where[1]].told is None:
            self.own = where[1]
            self.ring = [ring for ring in program.findings.rings if where[1] in ring][0]
        # The kinds at which other definitions of the ring are used.
        self.ring_kinds = {}

    def kind_of(self, term, value, scope, needs):
        """The kind of a value as the marked term of a term; `needs` is the context there, a list."""
        word = term[0]
        if word == "name":
            return self.kind_of_name(term[1], value, scope, needs)
        if word == "let":
            return self.kind_of_let(term, value, scope, needs)
        if word in ("whole", "text"):
            check(has_form(value, word, 2) and is_integer(value[1]) == is_integer(term[1]) and value[1] == term[1])
            return ("con", word)
        if word == "use":
            return self.kind_of_use(term, value, scope, needs)
        if word == "given":
            check(has_form(value, word, 4) and value[1] == term[1] and is_kind(value[2]))
            inner = with_entries(scope, {term[1]: ("one", value[2])})
            return to(value[2], self.kind_of(term[2], value[3], inner, needs))
        return self.kind_of_match(term, value, scope, needs)

    def kind_of_use(self, term, value, scope, needs):
        check(has_form(value, "use", 3))
        function = self.kind_of(term[1], value[1], scope, needs)
        argument = self.kind_of(term[2], value[2], scope, needs)
        check(is_arrow(function) and function[1][2] == argument)
        return function[2]

    def kind_of_name(self, name, value, scope, needs):
        if name in scope:
            return self.kind_of_bound(name, value, scope[name], needs)
        if name in self.book.members:
            return self.kind_of_member(name, value, needs)
        check(has_form(value, "name", 4) and value[1] == name)
        scheme = self.schemes.at(name)
        if name == self.own:
            check(value[2] == variables_as_kinds(scheme.variables) and are_given(value[3], 0, len(scheme.needs)))
            return scheme.kind
        by = kinds_by(scheme.variables, value[2])
        if name in self.ring:
            check(self.ring_kinds.setdefault(name, value[2]) == value[2])
        self.check_papers(put_needs(scheme.needs, by), value[3], needs)
        return put(scheme.kind, by)

    def kind_of_bound(self, name, value, entry, needs):
        """The kind of a name that is bound around."""
        check(has_form(value, "name", 4) and value[1] == name)
        if entry[0] == "one":
            check(value[2] == () and value[3] == ())
            return entry[1]
        if entry[0] == "own":
            check(value[2] == variables_as_kinds(entry[2]) and are_given(value[3], entry[3], entry[4]))
            return entry[1]
        by = kinds_by(entry[2], value[2])
        self.check_papers(put_needs(entry[3], by), value[3], needs)
        return put(entry[1], by)

    def kind_of_member(self, name, value, needs):
        check(has_form(value, "member", 6) and value[1] == name)
        scheme = self.schemes.at(name)
        shared = self.book.roles[self.book.members[name]].variables
        by = kinds_by(shared, value[2])
        by.update(kinds_by([word for word in scheme.variables if word not in shared], value[4]))
        asked = put_needs(scheme.needs, by)
        self.check_papers(asked[:1], (value[3],), needs)
        self.check_papers(asked[1:], value[5], needs)
        return put(scheme.kind, by)

    def check_papers(self, asked, papers, needs):
        """Raise NotRight if a value is not a tuple of right papers for what is asked."""
        check(isinstance(papers, tuple) and len(papers) == len(asked))
        for need, paper in zip(asked, papers):
            check(is_paper_among(self.book, needs, need, paper))

    def kind_of_match(self, term, value, scope, needs):
        check(has_form(value, "match", 3) and are_tuples_of(value[2], len(term[2]), 3))
        head, parts = spine_of(self.kind_of(term[1], value[1], scope, needs))
        data = self.book.data[self.book.constructors[term[2][0][0]]]
        check(head == ("con", data.name) and len(parts) == len(data.variables))
        by = dict(zip(data.variables, parts))
        found = []
        for (constructor, names, body), arm in zip(term[2], value[2]):
            check(arm[0] == constructor and arm[1] == names)
            entries = {}
            for name, kind in zip(names, self.book.fields_of(constructor)):
                entries[name] = ("one", put(kind, by))
            found.append(self.kind_of(body, arm[2], with_entries(scope, entries), needs))
            check(found[-1] == found[0])
        return found[0]

    def kind_of_let(self, term, value, scope, needs):
        terms = dict(term[1])
        uses = {name: [other for other in free_names(terms[name]) if other in terms] for name in terms}
        inner = {name: scope[name] for name in scope}
        for ring in rings_of(list(terms), uses):
            check(has_form(value, "let", 3) and are_tuples_of(value[1], len(ring), 5))
            self.check_ring(ring, terms, value[1], inner, needs)
            for row in value[1]:
                inner[row[0]] = ("let", row[3], row[1], row[2])
            value = value[2]
        return self.kind_of(term[2], value, inner, needs)

    def check_ring(self, names, terms, rows, scope, needs):
        """Raise NotRight if the rows of a ring of a let are not right."""
        variables, asked = rows[0][1], rows[0][2]
        check(isinstance(variables, tuple) and are_different_names(variables))
        check(isinstance(asked, tuple) and all([self.is_need_of_role(need) for need in asked]))
        around = self.names_around(scope, needs)
        check(not any([name in around for name in variables]))
        entries = {}
        for name, row in zip(names, rows):
            check(row[0] == name and row[1] == variables and row[2] == asked and is_kind(row[3]))
            entries[name] = ("own", row[3], variables, len(needs), len(asked))
        inner = with_entries(scope, entries)
        for name, row in zip(names, rows):
            check(self.kind_of(terms[name], row[4], inner, needs + list(asked)) == row[3])

    def is_need_of_role(self, value):
        """Whether any value is a need of a declared role; its kinds may be any kinds."""
        if not is_need(value) or value[0] not in self.book.roles:
            return False
        return len(value) - 1 == len(self.book.roles[value[0]].variables)

    def names_around(self, scope, needs):
        """The variables that stand in kinds and needs around, a dict of True."""
        kinds = [self.kind] + kinds_of(needs)
        for entry in scope.values():
            if entry[0] != "let":
                kinds.append(entry[1])
        found = {name: True for name in variables_of(*kinds)}
        for entry in scope.values():
            if entry[0] == "let":
                every = [entry[1]] + kinds_of(entry[3])
                for name in variables_of(*every):
                    if name not in entry[2]:
                        found[name] = True
        return found


def has_form(value, word, length):
    """Whether any value is a tuple of this length that begins with a word."""
    return isinstance(value, tuple) and len(value) == length and value[0] == word


def are_tuples_of(value, many, length):
    """Whether any value is a tuple of so many tuples of this length."""
    if not isinstance(value, tuple) or len(value) != many:
        return False
    return all([isinstance(row, tuple) and len(row) == length for row in value])


def with_entries(scope, entries):
    """The scope in which some names stand for something else."""
    return {**scope, **entries}


def kinds_by(variables, value):
    """A dict from variables to the kinds of a value; NotRight if it is not a tuple of as many kinds."""
    check(isinstance(value, tuple) and len(value) == len(variables) and all([is_kind(kind) for kind in value]))
    return dict(zip(variables, value))


def variables_as_kinds(names):
    """The variables with these names, a tuple of kinds."""
    return tuple([var(name) for name in names])


def are_given(value, start, many):
    """Whether any value is the papers of so many needs of the context, from an index on."""
    if not are_tuples_of(value, many, 3):
        return False
    for k, paper in enumerate(value):
        if paper[0] != "given" or not is_integer(paper[1]) or paper[1] != start + k or paper[2] != ():
            return False
    return True
