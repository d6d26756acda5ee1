"""A check of marked terms by the words of 60 and 61, apart from the package's own way to make them."""

from leastneeds.grouping import rings_of
from leastneeds.groups import rings
from leastneeds.kinds import con, is_arrow, is_kind, put, spine_of, to, var, variables_of
from leastneeds.marked import due
from leastneeds.names import is_name
from leastneeds.terms import free_names
from leastneeds.uniting import fits


class Wrong(Exception):
    pass


def holds(answer, why):
    if not answer:
        raise Wrong(why)


def term_at(program, where):
    if where[0] == "definition":
        return program.definition_named(where[1]).term
    if where[0] == "case":
        return dict(program.case_named(where[1]).members)[where[2]]
    return [row[3] for row in program.role_named(where[1]).members if row[0] == where[2]][0]


def put_all(needs, by):
    return [(need[0], *[put(kind, by) for kind in need[1:]]) for need in needs]


def kinds_in(needs):
    return [kind for need in needs for kind in need[1:]]


class Checker:
    def __init__(self, program, where):
        self.program = program
        self.kind, self.needs = due(program, where)
        self.ring = ()
        self.own = None
        if where[0] == "definition" and program.definition_named(where[1]).told is None:
            self.own = where[1]
            self.ring = [ring for ring in rings(program) if where[1] in ring][0]
        self.ring_kinds = {}

    def check_papers(self, needs, papers, context):
        holds(isinstance(papers, tuple) and len(papers) == len(needs), "number of papers")
        for need, paper in zip(needs, papers):
            self.check_paper(need, paper, context)

    def check_paper(self, need, paper, context):
        holds(isinstance(paper, tuple) and len(paper) == 3, "paper")
        cases = [self.program.case_named(name) for name in self.program.cases_of(need[0])]
        fitting = [(case, fits(case.kinds, need[1:])) for case in cases]
        parts = [(case.name, put_all(case.needs, by)) for case, by in fitting if by is not None]
        if paper[0] == "case":
            holds(parts and paper[1] == parts[0][0] and isinstance(paper[2], tuple), "case")
            self.check_papers(parts[0][1], paper[2], context)
            return
        _, index, path = paper
        holds(paper[0] == "given" and type(index) is int and 0 <= index < len(context), "given")
        holds(isinstance(path, tuple) and self.walked(context[index], path) == need, "path")

    def walked(self, need, path):
        for step in path:
            holds(isinstance(step, tuple) and len(step) == 2 and type(step[1]) is int and step[1] >= 0, "step")
            role = self.program.role_named(need[0])
            needs = put_all(role.above, dict(zip(role.variables, need[1:]))) if step[0] == "above" else []
            for name in self.program.cases_of(need[0]) if step[0] == "part" else ():
                by = fits(self.program.case_named(name).kinds, need[1:])
                needs = needs if by is None else put_all(self.program.case_named(name).needs, by)
            holds(step[1] < len(needs), "steps")
            need = needs[step[1]]
        return need

    def kinds_by(self, variables, kinds):
        holds(isinstance(kinds, tuple) and len(kinds) == len(variables), "number of kinds")
        holds(all(is_kind(kind) for kind in kinds), "kinds")
        return dict(zip(variables, kinds))

    def kind_of(self, term, value, scope, context):
        """The kind of a marked term; Wrong if it is not right for the term."""
        word = term[0]
        holds(isinstance(value, tuple), "tuple")
        if word in ("whole", "text"):
            holds(value == term and type(value[1]) is type(term[1]), word)
            return con(word)
        if word == "name":
            return self.kind_of_name(term[1], value, scope, context)
        if word == "use":
            holds(len(value) == 3 and value[0] == word, word)
            function = self.kind_of(term[1], value[1], scope, context)
            argument = self.kind_of(term[2], value[2], scope, context)
            holds(is_arrow(function) and function[1][2] == argument, ("use", function, argument))
            return function[2]
        if word == "given":
            holds(len(value) == 4 and value[:2] == (word, term[1]) and is_kind(value[2]), word)
            inner = {**scope, term[1]: ("one", value[2])}
            return to(value[2], self.kind_of(term[2], value[3], inner, context))
        if word == "match":
            return self.kind_of_match(term, value, scope, context)
        holds(word == "let", word)
        return self.kind_of_let(term, value, scope, context)

    def kind_of_name(self, name, value, scope, context):
        if name in scope:
            entry = scope[name]
            if entry[0] == "one":
                holds(value == ("name", name, (), ()), "parameter")
                return entry[1]
            if entry[0] == "own":
                _, kind, variables, start, many = entry
                papers = tuple(("given", start + k, ()) for k in range(many))
                holds(repr(value) == repr(("name", name, tuple(var(row) for row in variables), papers)), "own name")
                return kind
            _, variables, needs, kind = entry
        elif name in self.program.book.members:
            return self.kind_of_member(name, value, context)
        else:
            scheme = self.program.scheme(name)
            variables, needs, kind = scheme.variables, scheme.needs, scheme.kind
        holds(len(value) == 4 and value[:2] == ("name", name), "name")
        if name not in scope and name == self.own:
            papers = tuple(("given", k, ()) for k in range(len(needs)))
            holds(repr(value[2:]) == repr((tuple(var(row) for row in variables), papers)), "own definition")
        elif name not in scope and name in self.ring:
            holds(self.ring_kinds.setdefault(name, value[2]) == value[2], "kinds within the ring")
        by = self.kinds_by(variables, value[2])
        self.check_papers(put_all(needs, by), value[3], context)
        return put(kind, by)

    def kind_of_member(self, name, value, context):
        role = self.program.role_named(self.program.book.members[name])
        _, kind, needs, _ = [row for row in role.members if row[0] == name][0]
        holds(len(value) == 6 and value[:2] == ("member", name), "member")
        own = [row for row in variables_of(kind, *kinds_in(needs)) if row not in role.variables]
        by = self.kinds_by(role.variables, value[2])
        by.update(self.kinds_by(own, value[4]))
        self.check_papers([(role.name, *value[2])], (value[3],), context)
        self.check_papers(put_all(needs, by), value[5], context)
        return put(kind, by)

    def kind_of_match(self, term, value, scope, context):
        holds(len(value) == 3 and value[0] == "match", "match")
        holds(isinstance(value[2], tuple) and len(value[2]) == len(term[2]), "arms")
        head, parts = spine_of(self.kind_of(term[1], value[1], scope, context))
        data = self.program.data_named(self.program.book.constructors[term[2][0][0]])
        holds(head == con(data.name) and len(parts) == len(data.variables), "subject")
        by = dict(zip(data.variables, parts))
        found = []
        for (constructor, names, body), arm in zip(term[2], value[2]):
            holds(isinstance(arm, tuple) and arm[:2] == (constructor, names) and len(arm) == 3, "arm")
            fields = [put(kind, by) for kind in dict(data.constructors)[constructor]]
            inner = {**scope, **{name: ("one", kind) for name, kind in zip(names, fields)}}
            found.append(self.kind_of(body, arm[2], inner, context))
        holds(all(kind == found[0] for kind in found), "arms")
        return found[0]

    def taken(self, scope, context):
        """The variables around a ring of a let."""
        found = set(variables_of(self.kind, *kinds_in(context)))
        for entry in scope.values():
            if entry[0] == "let":
                found |= set(variables_of(entry[3], *kinds_in(entry[2]))) - set(entry[1])
            else:
                found |= set(variables_of(entry[1]))
        return found

    def kind_of_let(self, term, value, scope, context):
        terms = dict(term[1])
        uses = {name: [other for other in free_names(terms[name]) if other in terms] for name in terms}
        scope = dict(scope)
        for ring in rings_of(list(terms), uses):
            holds(isinstance(value, tuple) and len(value) == 3 and value[0] == "let", "let")
            holds(isinstance(value[1], tuple) and all(isinstance(row, tuple) and len(row) == 5 for row in value[1]), "rows")
            holds([row[0] for row in value[1]] == ring, "ring of a let")
            _, variables, needs, _, _ = value[1][0]
            holds(all(row[1:3] == (variables, needs) for row in value[1]), "variables and needs of a ring")
            holds(isinstance(variables, tuple) and all(is_name(name) for name in variables), "names of variables")
            holds(isinstance(needs, tuple) and all(self.is_need(need) for need in needs), "needs")
            holds(len(set(variables)) == len(variables), "different variables")
            holds(not self.taken(scope, context) & set(variables), "variables around")
            inner = dict(scope)
            for row in value[1]:
                holds(is_kind(row[3]), "kind of a name of a let")
                inner[row[0]] = ("own", row[3], variables, len(context), len(needs))
            for row in value[1]:
                kind = self.kind_of(terms[row[0]], row[4], inner, context + list(needs))
                holds(kind == row[3], "kind of a name of a let")
            for row in value[1]:
                scope[row[0]] = ("let", variables, needs, row[3])
            value = value[2]
        return self.kind_of(term[2], value, scope, context)

    def is_need(self, value):
        if not isinstance(value, tuple) or len(value) not in (2, 3) or not is_name(value[0]):
            return False
        roles = self.program.book.roles
        return value[0] in roles and len(roles[value[0]].variables) == len(value) - 1 and all(map(is_kind, value[1:]))


def check_marked(program, where, value):
    """Raise Wrong if a marked term is not right for a where."""
    checker = Checker(program, where)
    kind = checker.kind_of(term_at(program, where), value, {}, list(checker.needs))
    holds(kind == checker.kind, ("due kind", kind, checker.kind))


def wheres(program):
    """All wheres of a program."""
    found = [("definition", name) for name in program.book.definitions]
    for role in program.book.roles.values():
        found += [("role", role.name, row[0]) for row in role.members if row[3] is not None]
    for case in program.book.cases.values():
        found += [("case", case.name, row[0]) for row in case.members]
    return found
