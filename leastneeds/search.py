"""Contexts: sequences of needs that are there, and the papers for the needs that they meet."""

from leastneeds.charts import chart_of, first_paper, is_met, lacking_needs, plan_of
from leastneeds.errors import InvalidNeed
from leastneeds.needs import need_key
from leastneeds.shapes import is_need_in
from leastneeds.tally import Tally


class Context:
    """Needs of a program that are there."""

    def __init__(self, program, *needs):
        for need in needs:
            check_need(program, need)
        self.program = program
        self.needs = needs
        self.chart = chart_of(program.book, needs)

    @classmethod
    def given_by(cls, program, needs):
        """The context of a sequence of needs."""
        if not isinstance(needs, (list, tuple)):
            raise InvalidNeed(needs)
        return cls(program, *needs)

    def __len__(self):
        return len(self.needs)

    def __eq__(self, other):
        return isinstance(other, Context) and self.program == other.program and self.needs == other.needs

    def all_needs(self):
        """All needs that the context has, each with its first paper "given", ordered by these papers."""
        return tuple(self.chart.values())

    def meets(self, need):
        """Whether a need is met."""
        check_need(self.program, need)
        return is_met(self.program.book, self.chart, need)

    def is_met_by(self, other):
        """Whether another context meets each need of this one."""
        for need in self.needs:
            check_need(other.program, need)
        return all([is_met(other.program.book, other.chart, need) for need in self.needs])

    def joined(self, other):
        """The context of the needs of both, in order."""
        needs = self.needs + other.needs
        return Context(self.program, *needs)

    def paper(self, need):
        """The first paper for a need, or None."""
        check_need(self.program, need)
        return first_paper(plan_of(self.program.book, need), self.chart)

    def papers(self, need):
        """A generator of all papers for a need, in their order."""
        check_need(self.program, need)
        book = self.program.book
        tally = Tally(book, self.needs, self.chart, plan_of(book, need))
        word = need_key(need)
        for size in sorted(tally.numbers[word]):
            for rank in range(tally.numbers[word][size]):
                yield tally.paper(word, size, rank)

    def lacking(self, need):
        """A paper of lacking that is right for a need; None if the need is met."""
        check_need(self.program, need)
        needs = lacking_needs(plan_of(self.program.book, need), self.chart)
        return None if needs is None else ("lacking", needs)


def check_need(program, value):
    """Raise InvalidNeed for any value that is no need of the program."""
    if not is_need_in(program.book, value):
        raise InvalidNeed(value)
