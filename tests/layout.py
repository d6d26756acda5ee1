"""Groups, footprints and contents by the words of 100 and 101, apart from the package's own way to find them."""

from leastneeds.declarations import Case, Data, Definition, Role
from leastneeds.errors import UnknownName
from leastneeds.groups import rings
from leastneeds.shapes import shapes_of
from leastneeds.terms import free_names, part_at, places


def groups(program):
    found = [tuple(sorted(("definition", name) for name in ring)) for ring in rings(program)]
    for row in program.declarations:
        if isinstance(row, Case):
            found += [(("case", row.name, name),) for name, _ in row.members]
        if isinstance(row, Role):
            found += [(("role", row.name, member[0]),) for member in row.members if member[3] is not None]
    return tuple(sorted(found))


def term_of(program, where):
    if where[0] == "definition":
        return program.definition_named(where[1]).term
    if where[0] == "case":
        return dict(program.case_named(where[1]).members)[where[2]]
    return [row[3] for row in program.role_named(where[1]).members if row[0] == where[2]][0]


def told_of(program, where):
    return program.definition_named(where[1]).told if where[0] == "definition" else None


def looked_for(program, group):
    return [(term_of(program, where), told_of(program, where)) for where in group]


def constructors(program):
    found = {"no": "truth", "yes": "truth"}
    for row in program.declarations:
        if isinstance(row, Data):
            found.update({name: row.name for name, _ in row.constructors})
    return found


def members(program):
    roles = ["same", "order", "words"] + [row.name for row in program.declarations if isinstance(row, Role)]
    return {row[0]: role for role in roles for row in program.role_named(role).members}


def is_defined(program, name):
    return any(isinstance(row, Definition) and row.name == name for row in program.declarations)


def first_entries(program, where, group):
    term = term_of(program, where)
    matches = [part_at(term, place) for place in places(term) if part_at(term, place)[0] == "match"]
    found = {("data", constructors(program)[arm[0]]) for part in matches for arm in part[2]}
    for name in free_names(term):
        if name in constructors(program):
            found.add(("data", constructors(program)[name]))
        elif name in members(program):
            found.add(("role", members(program)[name]))
        elif is_defined(program, name) and ("definition", name) not in group:
            found.add(("name", name))
            if program.fault(("definition", name)) is None:
                found |= {("role", need[0]) for need in program.scheme(name).needs}
    if told_of(program, where) is not None:
        found |= {("role", need[0]) for need in told_of(program, where).needs}
    if where[0] == "case":
        case = program.case_named(where[1])
        found |= {("role", case.role)} | {("role", need[0]) for need in case.needs}
    if where[0] == "role":
        found.add(("role", where[1]))
    return found


def footprint(program, group):
    found = set()
    for where in group:
        found |= first_entries(program, where, group)
    size = -1
    while size < len(found):
        size = len(found)
        for entry in list(found):
            if entry[0] == "role":
                role = program.role_named(entry[1])
                needs = list(role.above) + [need for row in role.members for need in row[2]]
                needs += [need for name in program.cases_of(role.name) for need in program.case_named(name).needs]
                found |= {("role", need[0]) for need in needs}
    if any(entry[0] == "role" for entry in found):
        found.add(("picks",))
    return found


def content(program, entry):
    try:
        if entry[0] == "name":
            if program.fault(("definition", entry[1])) is not None:
                return ("faulty", program.declarations, program.picks)
            return ("scheme", program.scheme(entry[1]))
        if entry[0] == "data":
            return program.data_named(entry[1])
        if entry[0] == "role":
            role = program.role_named(entry[1])
            rows = [row[:3] + (row[3] is None,) for row in role.members]
            cases = {name: (program.case_named(name).kinds, program.case_named(name).needs) for name in program.cases_of(role.name)}
            return (role.variables, rows, role.above, role.settles, shapes_of(program, role.name), cases)
        return program.picks
    except UnknownName:
        return None


def looked(before, after):
    found = []
    for group in groups(after):
        if group not in groups(before) or looked_for(before, group) != looked_for(after, group):
            found.append(group)
        elif any(content(before, entry) != content(after, entry) for entry in footprint(after, group)):
            found.append(group)
    return tuple(found)


def news(before, after):
    found = []
    for row in after.declarations:
        where = ("definition", row.name)
        if not isinstance(row, Definition):
            continue
        if not is_defined(before, row.name):
            found.append(where)
        elif (before.fault(where) is None) != (after.fault(where) is None):
            found.append(where)
        elif after.fault(where) is None and before.scheme(row.name) != after.scheme(row.name):
            found.append(where)
    return tuple(sorted(found))
