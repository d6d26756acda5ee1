"""What is asked of the roles and cases of a program, and of all of its needs."""

from leastneeds.charts import are_met, needs_above
from leastneeds.declarations import Case, Definition, Derive, Role
from leastneeds.errors import BadMembers, Clash, Grows, Improper, RoleRing, Uncovered, Unsupported
from leastneeds.improvement import is_hopeless, is_steady, kinds_apart
from leastneeds.kinds import leaves_of, size_of, var, variables_of
from leastneeds.uniting import unite


def check_rings(book, declarations):
    """Raise RoleRing for the first role that is above itself."""
    for index, declaration in enumerate(declarations):
        if isinstance(declaration, Role) and declaration.name in roles_above(book, declaration.name):
            raise RoleRing(index)


def roles_above(book, name):
    """The names of all roles above a role, by one or more steps, a dict of True."""
    found = {}
    waiting = [name]
    while waiting:
        role = book.roles[waiting.pop()]
        for need in role.above:
            if need[0] not in found:
                found[need[0]] = True
                waiting.append(need[0])
    return found


def check_members(book, declarations):
    """Raise BadMembers for the first case whose members are not those of its role."""
    for index, declaration in enumerate(declarations):
        if isinstance(declaration, Case) and not has_right_members(book, declaration):
            raise BadMembers(index)


def has_right_members(book, case):
    """Whether a case names members of its role alone, each once, and all that have no default."""
    names = [row[0] for row in case.members]
    defaults = {row[0]: row[3] for row in book.roles[case.role].members}
    if len(set(names)) < len(names) or not all([name in defaults for name in names]):
        return False
    return all([name in names for name in defaults if defaults[name] is None])


def check_growth(declarations):
    """Raise Grows for the first need of a case that is not smaller than its head."""
    for index, declaration in enumerate(declarations):
        if isinstance(declaration, Case):
            for number, need in enumerate(declaration.needs):
                if not is_smaller(need, declaration.kinds):
                    raise Grows(index, number)


def is_smaller(need, head):
    """Whether a need is smaller than a head with these kinds."""
    kinds = need[1:]
    if size_of(*kinds) >= size_of(*head):
        return False
    own = leaves_of(*kinds)
    others = leaves_of(*head)
    return all([own.count(var(name)) <= others.count(var(name)) for name in variables_of(*kinds)])


def check_cover(book, declarations):
    """Raise Uncovered for the first case with a settled kind that the settling one does not cover."""
    for index, declaration in enumerate(declarations):
        if isinstance(declaration, Case):
            for i, j in book.roles[declaration.role].settles:
                covered = variables_of(declaration.kinds[i])
                if not all([name in covered for name in variables_of(declaration.kinds[j])]):
                    raise Uncovered(index)


def check_clashes(book, declarations):
    """Raise Clash for the first case that one need may fit beside an earlier one."""
    heads = heads_of(book, declarations)
    for index, role, kinds in heads:
        for other, other_role, other_kinds in heads:
            if other < index and role == other_role and may_clash(book.roles[role], kinds, other_kinds):
                raise Clash(index, other)


def heads_of(book, declarations):
    """The heads of all cases, a list of tuples (index, role, kinds); the index of built-in ones is -1."""
    own = {row.name: index for index, row in enumerate(declarations) if isinstance(row, (Case, Derive))}
    found = [(own.get(name, -1), book.cases[name].role, book.cases[name].kinds) for name in book.cases]
    return sorted(found, key=lambda row: row[0])


def may_clash(role, kinds, others):
    """Whether the heads, or if the role settles anything kinds at a settling place, can be made the same."""
    apart = kinds_apart(others)
    if len(role.settles) == 0:
        return unite(list(zip(kinds, apart))) is not None
    return any([unite([(kinds[i], apart[i])]) is not None for i, _ in role.settles])


def check_support(book, declarations):
    """Raise Unsupported for the first case with a need above its role that its needs do not meet."""
    for index, declaration in enumerate(declarations):
        if isinstance(declaration, (Case, Derive)):
            case = book.cases[declaration.name]
            for number, need in enumerate(needs_above(book, (case.role,) + case.kinds)):
                if not are_met(book, case.needs, [need]):
                    raise Unsupported(index, number)


def check_steadiness(book, declarations):
    """Raise Improper for the first declaration with needs that are not steady, or hopeless."""
    for index, declaration in enumerate(declarations):
        if not is_proper(book, declaration):
            raise Improper(index)


def is_proper(book, declaration):
    """Whether the needs of a declaration are steady, and not hopeless."""
    if isinstance(declaration, Definition) and declaration.told is not None:
        told = declaration.told
        return are_proper(book, [told.kind], told.needs)
    if isinstance(declaration, (Case, Derive)):
        case = book.cases[declaration.name]
        return are_proper(book, case.kinds, case.needs)
    if isinstance(declaration, Role):
        own = (declaration.name,) + tuple([var(name) for name in declaration.variables])
        return all([is_steady(book, [kind], (own,) + needs) for _, kind, needs, _ in declaration.members])
    return True


def are_proper(book, kinds, needs):
    """Whether needs are steady with kinds, and none is hopeless by itself."""
    return is_steady(book, kinds, needs) and not any([is_hopeless(book, (), need, ()) for need in needs])
