"""Writing schemes, terms, declarations and programs."""

from leastneeds.declarations import Case, Data, Definition, Role
from leastneeds.kinds import part_text, text_of


def write_scheme(scheme):
    """The text of a scheme, with the variables a, b, .. in their order."""
    found = scheme.named()
    return scheme_text(found.kind, found.needs)


def write_term(term):
    """The text of a term."""
    if is_simple(term):
        return simple_text(term)
    if term[0] == "use":
        return use_text(term)
    if term[0] == "given":
        return "given " + term[1] + " . " + write_term(term[2])
    if term[0] == "let":
        rows = [name + " = " + write_term(part) for name, part in term[1]]
        return "let " + " and ".join(rows) + " in " + write_term(term[2])
    arms = ["| " + words_text(row[0], row[1]) + " = " + write_term(row[2]) for row in term[2]]
    return " ".join(["match", write_term(term[1])] + arms + ["end"])


def write_program(program):
    """The text of a program."""
    rows = [write_declaration(declaration) for declaration in program.declarations]
    if len(program.picks) > 0:
        rows = ["picks " + " , ".join([text_of(kind) for kind in program.picks])] + rows
    return "\n".join(rows)


def write_declaration(declaration):
    """The lines of a declaration, one text."""
    if isinstance(declaration, Data):
        return data_text(declaration)
    if isinstance(declaration, Role):
        return "\n".join([role_text(declaration)] + [member_text(row) for row in declaration.members])
    if isinstance(declaration, Case):
        rows = ["as " + name + " = " + write_term(term) for name, term in declaration.members]
        return "\n".join([case_text(declaration)] + rows)
    if isinstance(declaration, Definition):
        return definition_text(declaration)
    return "derive " + declaration.name + " : " + declaration.role + " " + declaration.data


def is_simple(term):
    """Whether a term is one piece of text."""
    return term[0] in ("name", "whole", "text", "hole")


def simple_text(term):
    """The piece of a term that is one."""
    if term[0] == "hole":
        return "_"
    if term[0] == "text":
        return '"' + term[1].replace("\\", "\\\\").replace('"', '\\"') + '"'
    return str(term[1])


def use_text(term):
    """The text of a use."""
    # A line may have a function with so many arguments that nothing calls itself for them.
    arguments = []
    function = term
    while function[0] == "use":
        arguments = [inner_text(function[2])] + arguments
        function = function[1]
    return " ".join([inner_text(function)] + arguments)


def inner_text(term):
    """The text of a term within a use."""
    return simple_text(term) if is_simple(term) else "( " + write_term(term) + " )"


def words_text(word, words):
    """A word, and words behind it."""
    return " ".join([word] + list(words))


def need_text(need):
    """The text of a need."""
    return words_text(need[0], [part_text(kind) for kind in need[1:]])


def needs_text(needs):
    """The text of needs, with what stands between them."""
    return " , ".join([need_text(need) for need in needs])


def scheme_text(kind, needs):
    """The text of a kind with needs."""
    return text_of(kind) + if_text(needs)


def if_text(needs):
    """The text of needs behind what they are for, if there are any."""
    return " if " + needs_text(needs) if len(needs) > 0 else ""


def data_text(data):
    rows = [words_text(name, [part_text(kind) for kind in fields]) for name, fields in data.constructors]
    return "data " + head_text(data) + " = " + " | ".join(rows)


def head_text(declaration):
    """The name of data or of a role, with the variables behind it."""
    return words_text(declaration.name, ["'" + name for name in declaration.variables])


def role_text(role):
    """The first line of a role."""
    found = "role " + head_text(role)
    if len(role.above) > 0:
        found = found + " above " + needs_text(role.above)
    if len(role.settles) > 0:
        rows = [str(i) + " " + str(j) for i, j in role.settles]
        found = found + " settles " + " , ".join(rows)
    return found


def member_text(row):
    """The line of a member of a role."""
    name, kind, needs, default = row
    found = "member " + name + " : " + scheme_text(kind, needs)
    return found if default is None else found + " = " + write_term(default)


def case_text(case):
    """The first line of a case."""
    return "case " + case.name + " : " + need_text((case.role,) + case.kinds) + if_text(case.needs)


def definition_text(definition):
    told = "" if definition.told is None else " : " + write_scheme(definition.told)
    return "define " + definition.name + told + " = " + write_term(definition.term)
