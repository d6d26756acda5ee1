"""A check of marked terms by the words of 60 and 61, apart from the package's own way to make them."""

from leastneeds.grouping import rings_of
from leastneeds.groups import rings
from leastneeds.kinds import con, is_arrow, is_kind, put, spine_of, to, var, variables_of
from leastneeds.marked import due
from leastneeds.papers import is_paper
from leastneeds.search import Context
from leastneeds.terms import free_names


class Wrong(Exception):
    pass


def holds(answer, why):
    if not answer:
        raise Wrong(why)


def term_at(program, where):
    if where[0] == "definition":
        return program.definition_named(where[1]).term
    if where[0] == "case":
        return dict(program.case_named(where[1]).members)[where[2]]
    return [row[3] for row in program.role_named(where[1]).members if row[0] == where[2]][0]


def put_all(needs, by):
    return [(need[0], *[put(kind, by) for kind in need[1:]]) for need in needs]


def kinds_in(needs):
    return [kind for need in needs for kind in need[1:]]


class Checker:
    def __init__(self, program, where):
        self.program = program
        self.kind, self.needs = due(program, where)
        self.ring = ()
        self.own = None
        if where[0] == "definition" and program.definition_named(where[1]).told is None:
            self.own = where[1]
            self.ring = [ring for ring in rings(program) if where[1] in ring][0]
        self.ring_kinds = {}

    def check_papers(self, needs, papers, context):
        holds(isinstance(papers, tuple) and len(papers) == len(needs), "number of papers")
        for need, paper in zip(needs, papers):
            holds(is_paper(Context(self.program, *context), need, paper), ("paper", need, paper))

    def kinds_by(self, variables, kinds):
        holds(isinstance(kinds, tuple) and len(kinds) == len(variables), "number of kinds")
        holds(all(is_kind(kind) for kind in kinds), "kinds")
        return dict(zip(variables, kinds))

    def kind_of(self, term, value, scope, context, around):
        """The kind of a marked term; Wrong if it is not right for the term."""
        word = term[0]
        holds(isinstance(value, tuple), "tuple")
        if word in ("whole", "text"):
            holds(value == term, word)
            return con(word)
        if word == "name":
            return self.kind_of_name(term[1], value, scope, context)
        if word == "use":
            holds(len(value) == 3 and value[0] == word, word)
            function = self.kind_of(term[1], value[1], scope, context, around)
            argument = self.kind_of(term[2], value[2], scope, context, around)
            holds(is_arrow(function) and function[1][2] == argument, ("use", function, argument))
            return function[2]
        if word == "given":
            holds(len(value) == 4 and value[:2] == (word, term[1]) and is_kind(value[2]), word)
            inner = {**scope, term[1]: ("one", value[2])}
            return to(value[2], self.kind_of(term[2], value[3], inner, context, around + [value[2]]))
        if word == "match":
            return self.kind_of_match(term, value, scope, context, around)
        holds(word == "let", word)
        return self.kind_of_let(term, value, scope, context, around)

    def kind_of_name(self, name, value, scope, context):
        if name in scope:
            entry = scope[name]
            if entry[0] == "one":
                holds(value == ("name", name, (), ()), "parameter")
                return entry[1]
            if entry[0] == "own":
                _, kind, variables, start, many = entry
                papers = tuple(("given", start + k, ()) for k in range(many))
                holds(value == ("name", name, tuple(var(row) for row in variables), papers), "own name")
                return kind
            _, variables, needs, kind = entry
        elif name in self.program.book.members:
            return self.kind_of_member(name, value, context)
        else:
            scheme = self.program.scheme(name)
            variables, needs, kind = scheme.variables, scheme.needs, scheme.kind
        holds(len(value) == 4 and value[:2] == ("name", name), "name")
        if name not in scope and name == self.own:
            papers = tuple(("given", k, ()) for k in range(len(needs)))
            holds(value[2:] == (tuple(var(row) for row in variables), papers), "own definition")
        elif name not in scope and name in self.ring:
            holds(self.ring_kinds.setdefault(name, value[2]) == value[2], "kinds within the ring")
        by = self.kinds_by(variables, value[2])
        self.check_papers(put_all(needs, by), value[3], context)
        return put(kind, by)

    def kind_of_member(self, name, value, context):
        role = self.program.role_named(self.program.book.members[name])
        _, kind, needs, _ = [row for row in role.members if row[0] == name][0]
        holds(len(value) == 6 and value[:2] == ("member", name), "member")
        own = [row for row in variables_of(kind, *kinds_in(needs)) if row not in role.variables]
        by = self.kinds_by(role.variables, value[2])
        by.update(self.kinds_by(own, value[4]))
        self.check_papers([(role.name, *value[2])], (value[3],), context)
        self.check_papers(put_all(needs, by), value[5], context)
        return put(kind, by)

    def kind_of_match(self, term, value, scope, context, around):
        holds(len(value) == 3 and value[0] == "match" and len(value[2]) == len(term[2]), "match")
        head, parts = spine_of(self.kind_of(term[1], value[1], scope, context, around))
        data = self.program.data_named(self.program.book.constructors[term[2][0][0]])
        holds(head == con(data.name) and len(parts) == len(data.variables), "subject")
        by = dict(zip(data.variables, parts))
        found = []
        for (constructor, names, body), arm in zip(term[2], value[2]):
            holds(arm[:2] == (constructor, names) and len(arm) == 3, "arm")
            fields = [put(kind, by) for kind in dict(data.constructors)[constructor]]
            inner = {**scope, **{name: ("one", kind) for name, kind in zip(names, fields)}}
            found.append(self.kind_of(body, arm[2], inner, context, around + fields))
        holds(all(kind == found[0] for kind in found), "arms")
        return found[0]

    def kind_of_let(self, term, value, scope, context, around):
        terms = dict(term[1])
        uses = {name: [other for other in free_names(terms[name]) if other in terms] for name in terms}
        scope = dict(scope)
        for ring in rings_of(list(terms), uses):
            holds(len(value) == 3 and value[0] == "let" and [row[0] for row in value[1]] == ring, "ring of a let")
            _, variables, needs, _, _ = value[1][0]
            holds(all(row[1:3] == (variables, needs) for row in value[1]), "variables and needs of a ring")
            holds(len(set(variables)) == len(variables), "different variables")
            taken = set(variables_of(self.kind, *around, *kinds_in(context)))
            for entry in scope.values():
                if entry[0] == "let":
                    taken |= set(variables_of(entry[3], *kinds_in(entry[2]))) - set(entry[1])
            holds(not taken & set(variables), "variables around")
            inner = dict(scope)
            for row in value[1]:
                inner[row[0]] = ("own", row[3], variables, len(context), len(needs))
            for row in value[1]:
                within = around + [other[3] for other in value[1]]
                kind = self.kind_of(terms[row[0]], row[4], inner, context + list(needs), within)
                holds(kind == row[3], "kind of a name of a let")
                scope[row[0]] = ("let", variables, needs, row[3])
            value = value[2]
        return self.kind_of(term[2], value, scope, context, around)


def check_marked(program, where, value):
    """Raise Wrong if a marked term is not right for a where."""
    checker = Checker(program, where)
    kind = checker.kind_of(term_at(program, where), value, {}, list(checker.needs), [])
    holds(kind == checker.kind, ("due kind", kind, checker.kind))


def wheres(program):
    """All wheres of a program."""
    found = [("definition", name) for name in program.book.definitions]
    for role in program.book.roles.values():
        found += [("role", role.name, row[0]) for row in role.members if row[3] is not None]
    for case in program.book.cases.values():
        found += [("case", case.name, row[0]) for row in case.members]
    return found
