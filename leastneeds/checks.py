"""What is asked of the declarations of a program one by one, as far as names, arms and shapes go."""

from leastneeds.basics import TAKEN
from leastneeds.declarations import Case, Data, Definition, Derive, Role
from leastneeds.errors import BadArms, InvalidDeclaration, InvalidPicks, Misshapen, Repeated, Unknown
from leastneeds.forms import are_kinds_over
from leastneeds.kinds import leaves_of, text_of
from leastneeds.shapes import are_shaped
from leastneeds.shaping import Shaping
from leastneeds.terms import parts_of_term, words_of


def check_forms(declarations, picks):
    """Raise the error of the first value that is no declaration, then that of picks."""
    for index, value in enumerate(declarations):
        if not isinstance(value, (Data, Role, Case, Definition, Derive)):
            raise InvalidDeclaration(index)
    if not isinstance(picks, (list, tuple)) or not are_kinds_over(picks, ()):
        raise InvalidPicks()
    if len({text_of(kind) for kind in picks}) < len(picks):
        raise InvalidPicks()


def check_repeats(declarations):
    """Raise Repeated for the first declaration with a name that is taken."""
    taken = {}
    for index, declaration in enumerate(declarations):
        for key in declared_keys(declaration):
            if key in taken or key in TAKEN:
                raise Repeated(index)
            taken[key] = True


def declared_keys(declaration):
    """The names that a declaration declares, each with the word of its space, a list."""
    if isinstance(declaration, Data):
        return [("kind", declaration.name)] + [("term", row[0]) for row in declaration.constructors]
    if isinstance(declaration, Role):
        return [("role", declaration.name)] + [("term", row[0]) for row in declaration.members]
    if isinstance(declaration, Definition):
        return [("term", declaration.name)]
    return [("case", declaration.name)]


def check_names(book, declarations, picks):
    """Raise Unknown for the first name that is not declared."""
    for index, declaration in enumerate(declarations):
        word = first_unknown(book, declaration)
        if word is not None:
            raise Unknown(index, word)
    word = unknown_in_kinds(book, picks)
    if word is not None:
        raise Unknown(len(declarations), word)


def first_unknown(book, declaration):
    """The first name in a declaration that is not declared, or None."""
    if isinstance(declaration, Data):
        return unknown_in_kinds(book, [kind for row in declaration.constructors for kind in row[1]])
    if isinstance(declaration, Role):
        return unknown_in_role(book, declaration)
    if isinstance(declaration, Case):
        return unknown_in_case(book, declaration)
    if isinstance(declaration, Definition):
        return unknown_in_definition(book, declaration)
    return None if declaration.data in book.data else declaration.data


def unknown_in_kinds(book, kinds):
    """The first constructor in kinds that is not declared, or None."""
    for sort, word in leaves_of(*kinds):
        if sort == "con" and word not in book.lacks:
            return word
    return None


def unknown_in_needs(book, needs):
    """The first name in needs that is not declared, or None."""
    for need in needs:
        if need[0] not in book.roles:
            return need[0]
        word = unknown_in_kinds(book, need[1:])
        if word is not None:
            return word
    return None


def unknown_in_term(book, term):
    """The first name in a term that is not declared, or None."""
    for sort, word in words_of(term):
        if sort == "arm" and word not in book.constructors:
            return word
        if sort == "name" and not book.is_term_name(word):
            return word
    return None


def unknown_in_role(book, role):
    for _, kind, needs, default in role.members:
        word = unknown_in_kinds(book, [kind]) or unknown_in_needs(book, needs)
        if word is None and default is not None:
            word = unknown_in_term(book, default)
        if word is not None:
            return word
    return unknown_in_needs(book, role.above)


def unknown_in_case(book, case):
    word = unknown_in_needs(book, [(case.role,) + case.kinds])
    if word is not None:
        return word
    for _, term in case.members:
        word = unknown_in_term(book, term)
        if word is not None:
            return word
    return unknown_in_needs(book, case.needs)


def unknown_in_definition(book, definition):
    word = unknown_in_term(book, definition.term)
    if word is None and definition.told is not None:
        told = definition.told
        word = unknown_in_kinds(book, [told.kind]) or unknown_in_needs(book, told.needs)
    return word


def check_arms(book, declarations):
    """Raise BadArms for the first declaration with a match that has other arms than those of one data."""
    for index, declaration in enumerate(declarations):
        for term in terms_of(declaration):
            if not all([has_all_arms(book, part) for part in parts_of_term(term) if part[0] == "match"]):
                raise BadArms(index)


def terms_of(declaration):
    """The terms of a declaration in their order, a list."""
    if isinstance(declaration, Definition):
        return [declaration.term]
    if isinstance(declaration, Case):
        return [row[1] for row in declaration.members]
    if isinstance(declaration, Role):
        return [row[3] for row in declaration.members if row[3] is not None]
    return []


def has_all_arms(book, term):
    """Whether a match has each constructor of one data once, with a name for each field."""
    arms = term[2]
    data = book.data[book.constructors[arms[0][0]]]
    told = sorted([(arm[0], len(arm[1])) for arm in arms])
    return told == sorted([(name, len(fields)) for name, fields in data.constructors])


def checked_shapes(book, declarations, picks):
    """The least shapes of all roles; Misshapen for the first declaration with which there are none."""
    shaping = Shaping(book)
    for index, declaration in enumerate(declarations):
        if not shaping.take(index, declaration):
            raise Misshapen(index)
    if not are_shaped(book, [(kind, 0) for kind in picks]):
        raise Misshapen(len(declarations))
    return {name: least_shapes(shaping, book.roles[name]) for name in book.roles}


def least_shapes(shaping, role):
    """The least shapes of the places of a role, a tuple."""
    return tuple([shaping.least(("place", role.name, k)) for k in range(len(role.variables))])
