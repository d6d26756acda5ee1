"""Making records from papers."""

from leastneeds.charts import chart_of, first_paper, needs_above, plan_of


def recorded(book, paper, records):
    """The record that a paper makes from those of a context."""
    # Records may lie deep in one another in a run, so nothing calls itself here.
    made = []
    waiting = [("paper", paper, records)]
    while waiting:
        task = waiting.pop()
        if task[0] == "build":
            start = len(made) - task[2]
            inner = tuple(made[start:])
            del made[start:]
            made.append((task[1], inner))
        elif task[0] == "path":
            walk(book, made, waiting, task[1])
        elif task[1][0] == "case":
            waiting.append(("build", task[1][1], len(task[1][2])))
            waiting.extend([("paper", inner, task[2]) for inner in reversed(task[1][2])])
        else:
            made.append(task[2][task[1][1]])
            waiting.append(("path", task[1][2]))
    return made[0]


def walk(book, made, waiting, path):
    """Take the first step of a path from the record that was made last."""
    if len(path) == 0:
        return
    record = made.pop()
    word, k = path[0]
    waiting.append(("path", path[1:]))
    if word == "part":
        made.append(record[1][k])
    else:
        waiting.append(("paper", paper_above(book, record[0], k), record[1]))


def paper_above(book, name, k):
    """The first paper for the need above a case with this index, in the needs of the case."""
    if (name, k) not in book.papers_above:
        case = book.cases[name]
        need = needs_above(book, (case.role,) + case.kinds)[k]
        book.papers_above[(name, k)] = first_paper(plan_of(book, need), chart_of(book, case.needs))
    return book.papers_above[(name, k)]
