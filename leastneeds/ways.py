"""All marked terms that differ in papers alone."""

from leastneeds.marked import check_where
from leastneeds.marking import SlotMarker
from leastneeds.tally import Tally


def ways(program, where):
    """A generator of all marked terms with the least schemes: the papers that stand last change fastest."""
    check_where(program, where)
    study, index = program.findings.finished_study(where)
    marker = SlotMarker(study, index)
    sketch = marker.marked_term()
    rows = [PaperRow(marker.book, slot) for slot in marker.slots]
    papers = [row.first for row in rows]
    ranks = [0 for _ in rows]
    while True:
        yield filled(sketch, papers)
        k = len(rows) - 1
        # The rows behind the one that goes on begin anew.
        while k >= 0 and ranks[k] + 1 == rows[k].length():
            ranks[k] = 0
            papers[k] = rows[k].first
            k -= 1
        if k < 0:
            return
        ranks[k] += 1
        papers[k] = rows[k].paper_at(ranks[k])


class PaperRow:
    """All papers for the need of a slot, in their order. They are not looked for before they are asked for."""

    def __init__(self, book, slot):
        self.book = book
        self.needs, self.chart, self.plan, self.first = slot
        self.tally = None
        # The numbers of papers by their sizes, tuples (size, number), ascending.
        self.numbers = []

    def count_papers(self):
        if self.tally is None:
            self.tally = Tally(self.book, self.needs, self.chart, self.plan)
            numbers = self.tally.numbers[self.plan[-1][1]]
            self.numbers = [(size, numbers[size]) for size in sorted(numbers)]

    def length(self):
        """The number of papers."""
        self.count_papers()
        return sum([row[1] for row in self.numbers])

    def paper_at(self, rank):
        """The paper with this rank."""
        self.count_papers()
        left = rank
        for size, many in self.numbers:
            if left < many:
                return self.tally.paper(self.plan[-1][1], size, left)
            left -= many
        return None


def filled(term, papers):
    """The marked term with papers in the place of its slots."""
    word = term[0]
    if word == "name":
        return ("name", term[1], term[2], filled_papers(term[3], papers))
    if word == "member":
        paper = filled_papers((term[3],), papers)[0]
        return ("member", term[1], term[2], paper, term[4], filled_papers(term[5], papers))
    if word == "use":
        return ("use", filled(term[1], papers), filled(term[2], papers))
    if word == "given":
        return ("given", term[1], term[2], filled(term[3], papers))
    if word == "let":
        rows = [row[:4] + (filled(row[4], papers),) for row in term[1]]
        return ("let", tuple(rows), filled(term[2], papers))
    if word == "match":
        arms = [(row[0], row[1], filled(row[2], papers)) for row in term[2]]
        return ("match", filled(term[1], papers), tuple(arms))
    return term


def filled_papers(row, papers):
    """The papers of a row, in which some are slots, a tuple."""
    return tuple([papers[paper[1]] if paper[0] == "slot" else paper for paper in row])
