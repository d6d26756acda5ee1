"""The forms of the arguments of declarations. Each question here is asked of any value."""

from leastneeds.kinds import is_kind, text_of, variables_of
from leastneeds.names import is_integer, is_name
from leastneeds.needs import is_need, need_key, variables_in
from leastneeds.terms import are_different_names, has_hole, is_term

MOST = 100


def is_row(value, least, most):
    """Whether it is a list or tuple of so many things."""
    return isinstance(value, (list, tuple)) and least <= len(value) <= most


def are_names(value, least, most):
    """Whether it is a sequence of so many different names."""
    return is_row(value, least, most) and are_different_names(value)


def is_filled_term(value):
    """Whether it is a term without holes."""
    return is_term(value) and not has_hole(value)


def are_needs(value):
    """Whether it is a sequence of at most 100 needs."""
    return is_row(value, 0, MOST) and all([is_need(need) for need in value])


def are_kinds_over(value, variables):
    """Whether all of a sequence are kinds that have these variables alone."""
    if not all([is_kind(kind) for kind in value]):
        return False
    return all([name in variables for name in variables_of(*value)])


def are_tuples(value, length):
    """Whether all of a sequence are tuples of this length."""
    return all([isinstance(row, tuple) and len(row) == length for row in value])


def are_constructors(value, variables):
    """Whether it has the form of the constructors of data with these variables."""
    if not is_row(value, 1, 8) or not are_tuples(value, 2):
        return False
    if not are_different_names([row[0] for row in value]):
        return False
    return all([is_row(row[1], 0, 4) and are_kinds_over(row[1], variables) for row in value])


def are_role_members(value):
    """Whether it has the form of the members of a role."""
    if not is_row(value, 1, MOST) or not are_tuples(value, 4):
        return False
    if not are_different_names([row[0] for row in value]):
        return False
    return all([is_kind(row[1]) and are_needs(row[2]) and is_default(row[3]) for row in value])


def is_default(value):
    """Whether it has the form of the default of a member."""
    return value is None or is_filled_term(value)


def are_needs_above(value, role, variables):
    """Whether it has the form of the needs above a role with these variables."""
    if not are_needs(value):
        return False
    if len({need_key(need) for need in value}) < len(value):
        return False
    return all([need[0] != role and are_different_variables(need[1:], variables) for need in value])


def are_different_variables(kinds, variables):
    """Whether kinds are different ones of these variables."""
    if len({text_of(kind) for kind in kinds}) < len(kinds):
        return False
    return all([kind[0] == "var" and kind[1] in variables for kind in kinds])


def is_settling(value, variables):
    """Whether it tells which places of a role with these variables settle which."""
    if not is_row(value, 0, 2) or not are_tuples(value, 2):
        return False
    if not all([is_integer(row[0]) and is_integer(row[1]) for row in value]):
        return False
    if len(variables) == 1:
        return len(value) == 0
    return tuple(value) in ((), ((0, 1),), ((1, 0),), ((0, 1), (1, 0)))


def is_head(value):
    """Whether it has the form of the head of a case."""
    if not is_row(value, 1, 2) or not all([is_kind(kind) for kind in value]):
        return False
    begins = [begins_with_con(kind) for kind in value]
    return any(begins) and all([begins[k] or kind[0] == "var" for k, kind in enumerate(value)])


def begins_with_con(kind):
    """Whether a kind is a con, or an apply whose first part begins with one."""
    while kind[0] == "apply":
        kind = kind[1]
    return kind[0] == "con"


def are_case_members(value):
    """Whether it has the form of the members of a case."""
    if not is_row(value, 0, MOST) or not are_tuples(value, 2):
        return False
    return all([is_name(row[0]) and is_filled_term(row[1]) for row in value])


def are_needs_over(value, kinds):
    """Whether it is a sequence of at most 100 needs over the variables of these kinds."""
    if not are_needs(value):
        return False
    variables = variables_of(*kinds)
    return all([name in variables for name in variables_in(value)])
