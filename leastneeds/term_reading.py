"""Reading terms from lines."""

# So many parentheses, functions, lets and matches may be open at once in a term.
DEEPEST = 20


def term_from(line, depth=0):
    """The term that a line goes on with; `depth` tells how much is open."""
    if line.is_next_word("given"):
        return given_from(line, depth)
    if line.is_next_word("let"):
        return let_from(line, depth)
    if line.is_next_word("match"):
        return match_from(line, depth)
    return use_from(line, depth)


def is_block_next(line):
    """Whether a term is next that is no use, and stands in parentheses within a use."""
    return line.is_next_word("given") or line.is_next_word("let") or line.is_next_word("match")


def take_opening(line, depth):
    """Take a piece that opens something."""
    if depth == DEEPEST:
        line.fail()
    line.take()


def given_from(line, depth):
    take_opening(line, depth)
    name = line.take_name()
    line.take_mark(".")
    return ("given", name, term_from(line, depth + 1))


def let_from(line, depth):
    take_opening(line, depth)
    rows = [row_from(line, depth + 1)]
    while line.is_next_word("and"):
        line.take()
        rows.append(row_from(line, depth + 1))
    line.take_word("in")
    return ("let", tuple(rows), term_from(line, depth + 1))


def row_from(line, depth):
    """A name of a let with its term."""
    name = line.take_name()
    line.take_mark("=")
    return (name, term_from(line, depth))


def match_from(line, depth):
    take_opening(line, depth)
    subject = term_from(line, depth + 1)
    arms = [arm_from(line, depth + 1)]
    while line.is_mark("|"):
        arms.append(arm_from(line, depth + 1))
    line.take_word("end")
    return ("match", subject, tuple(arms))


def arm_from(line, depth):
    line.take_mark("|")
    constructor = line.take_name()
    names = []
    while line.has_name():
        names.append(line.take_name())
    line.take_mark("=")
    return (constructor, tuple(names), term_from(line, depth))


def use_from(line, depth):
    """A name, an integer, a string or a hole, or a use."""
    is_block = line.is_mark("(")
    if is_block:
        found = block_from(line, depth)
    elif is_simple_next(line):
        found = simple_from(line)
    else:
        line.fail()
    while line.is_mark("(") or is_simple_next(line):
        found = ("use", found, argument_from(line, depth))
        is_block = False
    # What stands in parentheses is part of a use.
    if is_block:
        line.fail()
    return found


def block_from(line, depth):
    """A function in parentheses: no use, as that has none."""
    take_opening(line, depth)
    if not is_block_next(line):
        line.fail()
    found = term_from(line, depth + 1)
    line.take_mark(")")
    return found


def argument_from(line, depth):
    if is_simple_next(line):
        return simple_from(line)
    take_opening(line, depth)
    found = term_from(line, depth + 1)
    if found[0] in ("name", "whole", "text", "hole"):
        line.fail()
    line.take_mark(")")
    return found


def is_simple_next(line):
    """Whether a name, an integer, a string or a hole is next."""
    return line.peek()[0] in ("whole", "text") or line.is_mark("_") or line.has_name()


def simple_from(line):
    sort, what = line.take()
    if sort == "mark":
        return ("hole",)
    return ("name" if sort == "word" else sort, what)
