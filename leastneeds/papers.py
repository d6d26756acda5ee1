"""Whether papers are right. Nothing is searched here: only what a paper tells is looked at."""

from leastneeds.charts import case_at, needs_above
from leastneeds.names import is_integer
from leastneeds.needs import need_key
from leastneeds.search import check_need
from leastneeds.shapes import is_need_in


def is_paper(context, need, value):
    """Whether any value is a right paper for a need in a context."""
    check_need(context.program, need)
    return is_paper_among(context.program.book, context.needs, need, value)


def is_paper_among(book, needs, need, value):
    """Whether any value is a right paper for a need in a context of needs."""
    # Papers may lie deep in one another, so nothing calls itself here.
    waiting = [(need, value)]
    while waiting:
        part, paper = waiting.pop()
        if not isinstance(paper, tuple) or len(paper) != 3:
            return False
        if paper[0] == "given":
            if need_at(book, needs, paper[1], paper[2]) != part:
                return False
        elif paper[0] == "case":
            case = case_at(book, part)
            if case is None or paper[1] != case[0]:
                return False
            if not isinstance(paper[2], tuple) or len(paper[2]) != len(case[1]):
                return False
            waiting.extend(list(zip(case[1], paper[2])))
        else:
            return False
    return True


def need_at(book, needs, index, path):
    """The need to which a path leads from the need with an index; None for any values that are none."""
    if not is_integer(index) or not 0 <= index < len(needs) or not isinstance(path, tuple):
        return None
    need = needs[index]
    for step in path:
        if not isinstance(step, tuple) or len(step) != 2 or not is_integer(step[1]):
            return None
        others = needs_by(book, need, step[0])
        if not 0 <= step[1] < len(others):
            return None
        need = others[step[1]]
    return need


def needs_by(book, need, word):
    """The needs to which steps with this word, any value, lead from a need, a list."""
    if word == "above":
        return needs_above(book, need)
    case = case_at(book, need) if word == "part" else None
    return [] if case is None else case[1]


def is_lacking(context, need, value):
    """Whether any value is a right paper of lacking for a need in a context."""
    check_need(context.program, need)
    if not isinstance(value, tuple) or len(value) != 2 or value[0] != "lacking" or not isinstance(value[1], tuple):
        return False
    book = context.program.book
    if not all([is_need_in(book, other) for other in value[1]]):
        return False
    among = {need_key(other): True for other in value[1]}
    if len(among) < len(value[1]) or need_key(need) not in among:
        return False
    if any([word in context.chart for word in among]):
        return False
    return all([is_lacked(book, other, among) for other in value[1]])


def is_lacked(book, need, among):
    """Whether a need fits no case, or some of its parts are among needs that are told by their keys."""
    case = case_at(book, need)
    return case is None or any([need_key(part) in among for part in case[1]])
