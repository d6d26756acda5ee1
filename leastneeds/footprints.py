"""The groups of a program, and what each of them depends on."""

from leastneeds.declarations import Case, Role
from leastneeds.terms import words_of
from leastneeds.wheres import term_at


class Layout:
    """The groups of a program, by their wheres, and what the entries of footprints come to in it."""

    def __init__(self, program):
        self.program = program
        self.book = program.book
        self.faulty = program.findings.faulty
        # The groups with their terms and told schemes, by their wheres.
        self.groups = {}
        for ring in program.findings.rings:
            row = tuple([("definition", name) for name in sorted(ring)])
            self.groups[row] = self.what_is_looked_at(row)
        for declaration in program.declarations:
            for where in wheres_within(declaration):
                self.groups[(where,)] = self.what_is_looked_at((where,))

    def what_is_looked_at(self, group):
        """The terms of a group and their told schemes, a list."""
        found = []
        for where in group:
            told = self.book.definitions[where[1]].told if where[0] == "definition" else None
            found.append((term_at(self.book, where), told))
        return found

    def footprint(self, group):
        """The footprint of a group, a list of entries."""
        found = {}
        for where in group:
            self.add_where(where, group, found)
        # More roles may come behind those that are there.
        waiting = [entry[1] for entry in found if entry[0] == "role"]
        while waiting:
            behind = self.roles_behind(waiting.pop())
            for role in behind:
                if ("role", role) not in found:
                    found[("role", role)] = True
                    waiting.append(role)
        rows = list(found)
        if any([entry[0] == "role" for entry in rows]):
            rows.append(("picks",))
        return rows

    def add_where(self, where, group, found):
        """Add the entries that one term of a group has by itself to a dict."""
        for sort, word in words_of(term_at(self.book, where)):
            if sort == "arm" or word in self.book.constructors:
                found[("data", self.book.constructors[word])] = True
            elif word in self.book.members:
                found[("role", self.book.members[word])] = True
            elif word in self.book.definitions and ("definition", word) not in group:
                found[("name", word)] = True
                if word not in self.faulty:
                    add_roles(self.program.scheme(word).needs, found)
        if where[0] == "case":
            case = self.book.cases[where[1]]
            add_roles(((case.role,),) + case.needs, found)
        elif where[0] == "role":
            add_roles(((where[1],),), found)
        elif self.book.definitions[where[1]].told is not None:
            add_roles(self.book.definitions[where[1]].told.needs, found)

    def roles_behind(self, name):
        """The roles of the needs above a role, of its members and of its cases, a list."""
        role = self.book.roles[name]
        needs = list(role.above)
        for row in role.members:
            needs.extend(row[2])
        for case in self.book.cases_at(name):
            needs.extend(case.needs)
        return [need[0] for need in needs]

    def content(self, entry):
        """What an entry comes to, a tuple; () if it is not there."""
        if entry[0] == "picks":
            return (self.program.picks,)
        if entry[0] == "name":
            return self.name_content(entry[1])
        if entry[0] == "data":
            return (self.book.data[entry[1]],) if entry[1] in self.book.data else ()
        return self.role_content(entry[1])

    def name_content(self, name):
        """What a definition tells the terms that use it."""
        if name not in self.book.definitions:
            return ()
        if name in self.faulty:
            return ("faulty", self.program.declarations, self.program.picks)
        return ("scheme", self.program.scheme(name))

    def role_content(self, name):
        """What a role tells: its declaration but for the terms of defaults, its shapes and its cases."""
        if name not in self.book.roles:
            return ()
        role = self.book.roles[name]
        members = [(row[0], row[1], row[2], row[3] is not None) for row in role.members]
        cases = {case.name: (case.kinds, case.needs) for case in self.book.cases_at(name)}
        return (role.variables, members, role.above, role.settles, self.book.shapes[name], cases)


def add_roles(needs, found):
    """Add the entries of the roles of needs to a dict."""
    for need in needs:
        found[("role", need[0])] = True


def wheres_within(declaration):
    """The wheres of the members of a case, or of the defaults of a role, a list."""
    if isinstance(declaration, Case):
        return [("case", declaration.name, row[0]) for row in declaration.members]
    if isinstance(declaration, Role):
        return [("role", declaration.name, row[0]) for row in declaration.members if row[3] is not None]
    return []


def groups_looked_at(before, after):
    """The groups of one layout that are looked at behind another one, ascending, a tuple."""
    changed = {}
    found = []
    for group in after.groups:
        if group not in before.groups or before.groups[group] != after.groups[group]:
            found.append(group)
            continue
        for entry in after.footprint(group):
            if entry not in changed:
                changed[entry] = before.content(entry) != after.content(entry)
            if changed[entry]:
                found.append(group)
                break
    return tuple(sorted(found))


def names_in_news(before, after):
    """The wheres of definitions of which one layout tells something else than another one, a tuple."""
    found = []
    for name in after.book.definitions:
        own = after.name_content(name)
        other = before.name_content(name)
        # Another fault of what had one is no news.
        if own[:1] != other[:1] or (own[0] == "scheme" and own != other):
            found.append(("definition", name))
    return tuple(sorted(found))
