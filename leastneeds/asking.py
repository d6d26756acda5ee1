"""Which uses in the terms of a definition ask which needs."""

from leastneeds.grouping import rings_of
from leastneeds.improvement import least_of
from leastneeds.kinds import kind_key, put
from leastneeds.marking import Marker, context_of
from leastneeds.needs import put_needs
from leastneeds.terms import free_names

# What stands for the outside of all lets.
OUTSIDE = -1


class Use:
    """A use of a member or of a definition's name, at a place of the term of a definition.

    `rows` has for each instance the kinds by which the scheme is used, a dict, and the least context of
    the needs that it asks then.
    """

    def __init__(self, definition, place, name, rows):
        self.definition = definition
        self.place = place
        self.name = name
        self.rows = rows


def asking_uses(findings, name):
    """All uses that ask needs in the terms of the ring of a definition, a list.

    Their kinds are told with the variables of the scheme of this definition.
    """
    if name not in findings.kept_uses:
        study, index = findings.finished_study(("definition", name))
        marker = Marker(study, index)
        told = findings.book.definitions[name].told
        ring = [name] if told is not None else [row[0] for row in study.rows]
        found = []
        for definition, row, sketch in zip(ring, study.rows, study.sketches):
            marks = marker.marks(sketch, context_of(findings.book, marker.needs))
            collector = Collector(findings, [] if told is not None else ring)
            collector.collect(row[1], marks, (), {}, OUTSIDE)
            found.extend(collector.found_uses(definition))
        findings.kept_uses[name] = found
    return list(findings.kept_uses[name])


class Collector:
    """Collects the uses in a term, and the instances of the rings of its lets."""

    def __init__(self, findings, ring):
        self.book = findings.book
        self.schemes = findings.schemes
        # The definitions whose names ask nothing.
        self.ring = ring
        # Tuples (place, name, kinds, ring around).
        self.asking = []
        # Of each ring of a let: its variables, the ring around it, and the kinds at which its names are
        # used outside, tuples (kinds, ring around). Rings are told by their indexes here.
        self.variables = []
        self.around = []
        self.users = []
        self.instances = {OUTSIDE: [{}]}

    def collect(self, term, marks, place, bound, around):
        """Collect from a part of the term.

        `bound` tells the rings of names that are bound by lets, OUTSIDE for other names that are bound.
        """
        word = term[0]
        if word == "name":
            self.collect_name(term[1], marks, place, bound, around)
        elif word == "use":
            self.collect(term[1], marks[1], place + (0,), bound, around)
            self.collect(term[2], marks[2], place + (1,), bound, around)
        elif word == "given":
            self.collect(term[2], marks[3], place + (0,), {**bound, term[1]: OUTSIDE}, around)
        elif word == "let":
            self.collect_let(term, marks, place, bound, around)
        elif word == "match":
            self.collect(term[1], marks[1], place + (0,), bound, around)
            for k, arm in enumerate(term[2]):
                inner = {name: OUTSIDE for name in arm[1]}
                self.collect(arm[2], marks[2][k][2], place + (k + 1,), {**bound, **inner}, around)

    def collect_name(self, name, marks, place, bound, around):
        if name in bound:
            if bound[name] != OUTSIDE and not self.is_within(around, bound[name]):
                self.users[bound[name]].append((marks[2], around))
        elif name in self.book.members:
            shared = self.book.roles[self.book.members[name]].variables
            own = [word for word in self.schemes.at(name).variables if word not in shared]
            by = dict(zip(list(shared) + own, marks[2] + marks[4]))
            self.asking.append((place, name, by, around))
        elif name in self.book.definitions and name not in self.ring:
            by = dict(zip(self.schemes.at(name).variables, marks[2]))
            self.asking.append((place, name, by, around))

    def is_within(self, ring, other):
        """Whether a ring is another one or stands in its terms."""
        while ring != OUTSIDE and ring != other:
            ring = self.around[ring]
        return ring == other

    def collect_let(self, term, marks, place, bound, around):
        names = [row[0] for row in term[1]]
        terms = dict(term[1])
        uses = {name: [other for other in free_names(terms[name]) if other in terms] for name in names}
        inner = dict(bound)
        for ring in rings_of(names, uses):
            index = len(self.variables)
            self.variables.append(marks[1][0][1])
            self.around.append(around)
            self.users.append([])
            inner.update({name: index for name in ring})
            for row in marks[1]:
                self.collect(terms[row[0]], row[4], place + (names.index(row[0]),), dict(inner), index)
            marks = marks[2]
        self.collect(term[2], marks, place + (len(names),), inner, around)

    def instances_of(self, ring):
        """The kinds for the variables of a ring and of those around it, at each use, a list of dicts."""
        if ring not in self.instances:
            found = {}
            for kinds, around in self.users[ring]:
                for by in self.instances_of(around):
                    own = dict(zip(self.variables[ring], [put(kind, by) for kind in kinds]))
                    every = {**by, **own}
                    instance = {name: every[name] for name in self.variables_at(ring)}
                    found["".join([kind_key(kind) for kind in instance.values()])] = instance
            self.instances[ring] = list(found.values())
        return self.instances[ring]

    def variables_at(self, ring):
        """The variables of a ring and of those around it, a list."""
        found = []
        while ring != OUTSIDE:
            found.extend(self.variables[ring])
            ring = self.around[ring]
        return found

    def found_uses(self, definition):
        """The uses that were collected, a list."""
        found = []
        for place, name, kinds, around in self.asking:
            rows = []
            for instance in self.instances_of(around):
                by = {word: put(kinds[word], instance) for word in kinds}
                rows.append((by, least_of(self.book, put_needs(self.schemes.at(name).needs, by))))
            found.append(Use(definition, place, name, rows))
        return found
