"""All papers for a need in their order, each made by its rank, without those before it."""

from leastneeds.charts import look_at
from leastneeds.needs import need_key


class Tally:
    """How many papers of each size there are for the needs of a plan, in a context."""

    def __init__(self, book, needs, chart, plan):
        self.starts = [need_key(need) for need in needs]
        self.exits = steps_in(book, chart)
        self.entries = entries_of(self.exits)
        # Of each need: the numbers of ways to it through the chart, by their lengths.
        self.routes = {}
        # Of each need: the name of its case, its parts, and the tables that `rests_of` tells.
        self.cases = {}
        # Of each need: the numbers of its papers, by their sizes.
        self.numbers = {}
        for _, word, name, parts in plan:
            self.routes[word] = self.ways_to(word) if word in chart else []
            self.cases[word] = (name, parts, rests_of([self.numbers[part] for part in parts]))
            self.numbers[word] = self.numbers_of(word)

    def ways_to(self, target):
        """Of each length, a dict: how many ways so long lead to the target from each need that has one."""
        found = []
        now = {target: 1}
        while now:
            found.append(now)
            longer = {}
            for word in now:
                for other in self.entries[word]:
                    longer[other] = longer.get(other, 0) + now[word]
            now = longer
        return found

    def given_count(self, word, length):
        """How many papers "given" with a path so long there are."""
        if length >= len(self.routes[word]):
            return 0
        return sum([self.routes[word][length].get(start, 0) for start in self.starts])

    def numbers_of(self, word):
        """The numbers of papers, by their sizes, from what is known of the parts."""
        found = {}
        for length in range(len(self.routes[word])):
            many = self.given_count(word, length)
            if many > 0:
                found[length + 1] = many
        name, _, rests = self.cases[word]
        if name is not None:
            for size in rests[0]:
                found[size + 1] = found.get(size + 1, 0) + rests[0][size]
        return found

    def paper(self, word, size, rank):
        """The paper with this rank among those of this size."""
        # Papers may lie deep in one another: first all pieces, each ahead of its inner ones, then the whole.
        pieces = []
        waiting = [(word, size, rank)]
        while waiting:
            part, part_size, part_rank = waiting.pop()
            many = self.given_count(part, part_size - 1)
            if part_rank < many:
                pieces.append(self.given_paper(part, part_size - 1, part_rank))
            else:
                rows = self.inner_rows(part, part_size - 1, part_rank - many)
                pieces.append(("case", self.cases[part][0], len(rows)))
                waiting.extend(list(reversed(rows)))
        return assembled(pieces)

    def given_paper(self, target, length, rank):
        """The paper "given" with this rank among those with a path so long."""
        routes = self.routes[target]
        index, rank = chosen([routes[length].get(word, 0) for word in self.starts], rank)
        word = self.starts[index]
        path = ()
        for now in reversed(routes[:length]):
            exits = self.exits[word]
            at, rank = chosen([now.get(other, 0) for _, other in exits], rank)
            step, word = exits[at]
            path = path + (step,)
        return ("given", index, path)

    def inner_rows(self, word, size, rank):
        """What the papers in a paper are that has this rank among those by its case, a list.

        Each one is told by its need, its size and its rank.
        """
        _, parts, rests = self.cases[word]
        found = []
        for k, part in enumerate(parts):
            after = rests[k + 1]
            sizes = [own for own in sorted(self.numbers[part]) if size - own in after]
            at, rank = chosen([self.numbers[part][own] * after[size - own] for own in sizes], rank)
            size -= sizes[at]
            own_rank, rank = divmod(rank, after[size])
            found.append((part, sizes[at], own_rank))
        return found


def chosen(numbers, rank):
    """The index of the number to which a rank leads, if each counts so many ranks, and the rank there."""
    index = 0
    while rank >= numbers[index]:
        rank -= numbers[index]
        index += 1
    return index, rank


def steps_in(book, chart):
    """The steps from all needs of a chart, by their keys: lists of tuples (step, key)."""
    found = {}
    for word in chart:
        steps = look_at(book, chart[word][0], word)[1]
        found[word] = [(step, key) for step, _, key in steps]
    return found


def entries_of(exits):
    """From which needs steps lead to each need of a chart: lists of keys, one for each step."""
    found = {word: [] for word in exits}
    for word in exits:
        for _, other in exits[word]:
            found[other].append(word)
    return found


def rests_of(counts):
    """In how many ways the papers from each part on have a size together, a list of dicts.

    `counts` has the numbers of papers of each part, by their sizes.
    """
    found = [{0: 1}]
    for sizes in reversed(counts):
        after = found[-1]
        now = {}
        for size in sizes:
            for rest in after:
                now[size + rest] = now.get(size + rest, 0) + sizes[size] * after[rest]
        found.append(now)
    return list(reversed(found))


def assembled(pieces):
    """The paper of these pieces: each one for a case tells how many papers behind it are its own."""
    made = []
    for piece in reversed(pieces):
        if piece[0] == "case":
            inner = [made.pop() for _ in range(piece[2])]
            made.append(("case", piece[1], tuple(inner)))
        else:
            made.append(piece)
    return made[0]
