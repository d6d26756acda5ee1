"""The schemes of all names of a program, and the faults of its terms."""

from leastneeds.cutting import beginnings_of, count_of
from leastneeds.declarations import Case, Derive, Role
from leastneeds.grouping import definition_rings, used_definitions
from leastneeds.kinds import size_of
from leastneeds.known import Known
from leastneeds.needs import kinds_of
from leastneeds.study import MOST, Study
from leastneeds.terms import places, words_of
from leastneeds.wheres import due_in, term_in


class Findings:
    """What a look at all definitions of a book tells."""

    def __init__(self, book, picks):
        self.book = book
        self.picks = picks
        definitions = book.definitions
        # The names of the definitions that each one uses.
        self.used = {name: used_definitions(book, definitions[name].term) for name in definitions}
        self.rings = definition_rings(book, self.used)
        # The schemes of names in terms; None for a definition whose uses count as holes.
        self.schemes = Known(book)
        # The marked terms, as far as they were asked for, by their wheres.
        self.kept_marks = {}
        # The uses that ask needs, as far as they were asked for, by the names of definitions.
        self.kept_uses = {}
        # The faults of definitions, at first without those that come from others.
        self.faulty = {}
        for ring in self.rings:
            self.look(ring)
        self.faulty = with_stuck(definitions, self.used, self.faulty)

    def look(self, ring):
        """Find the schemes and the faults of a ring."""
        # Places are counted definition by definition, their names ascending.
        names = sorted(ring)
        told = self.book.definitions[names[0]].told
        study = self.study_of(ring)
        faults = faults_in(study, self.picks, self.schemes)
        for k, name in enumerate(names):
            if k in faults:
                self.faulty[name] = faults[k]
            if told is None:
                is_hole = k in faults or study.word is not None
                self.schemes.keep(name, None if is_hole else study.scheme_at(k))

    def study_of(self, ring):
        """A look at the terms of a ring."""
        rows, told = self.ring_rows(ring)
        return Study(self.book, self.schemes, rows, told)

    def ring_rows(self, ring):
        """The terms of a ring with their names, and what is told of it, as a study takes them."""
        definitions = [self.book.definitions[name] for name in sorted(ring)]
        told = definitions[0].told
        if told is not None:
            return [("", definitions[0].term)], (told.kind, told.needs)
        return [(definition.name, definition.term) for definition in definitions], None

    def rows_at(self, where):
        """As `ring_rows`, of the ring of a where, with the index of its own term there."""
        if where[0] != "definition":
            return [("", term_in(self.book, where))], due_in(self.book, where), 0
        ring = [names for names in self.rings if where[1] in names][0]
        rows, told = self.ring_rows(ring)
        return rows, told, sorted(ring).index(where[1])

    def study_with(self, where, term):
        """A look at the terms of the ring of a where, with another term in the place of its own."""
        rows, told, index = self.rows_at(where)
        rows[index] = (rows[index][0], term)
        return Study(self.book, self.schemes, rows, told)

    def finished_study(self, where):
        """A look at the terms of the ring of a where, with their least context, and the index of its own term."""
        rows, told, index = self.rows_at(where)
        study = Study(self.book, self.schemes, rows, told)
        study.reduce(self.picks)
        return study, index

    def fault_in(self, where):
        """The fault at a where, or None."""
        if where[0] == "definition":
            return self.faulty.get(where[1])
        return self.fault_with(term_in(self.book, where), due_in(self.book, where))

    def fault_with(self, term, told):
        """The fault of a term that is used nowhere, or None."""
        faults = faults_in(Study(self.book, self.schemes, [("", term)], told), self.picks, self.schemes)
        return faults[0] if 0 in faults else stuck_fault(term, self.faulty, "")

    def all_faults(self, declarations):
        """All faults of the terms of declarations, tuples (where, fault)."""
        found = [(("definition", name), self.faulty[name]) for name in self.book.definitions if name in self.faulty]
        for where in wheres_of(self.book, declarations):
            fault = self.fault_in(where)
            if fault is not None:
                found.append((where, fault))
        return tuple(found)


def faults_in(study, picks, schemes):
    """The faults of the terms of a study, a dict from their indexes; it finishes the study."""
    every = list(range(len(study.rows)))
    if study.word == "great":
        return {k: ("great",) for k in every}
    if study.word is not None:
        index, place, word = first_bad(study, schemes)
        return {index: (word, place)}
    study.reduce(picks)
    found = {}
    for k in every:
        role = study.unclear_role(k)
        if role is not None:
            found[k] = ("unclear", role)
        elif study.is_great(k):
            found[k] = ("great",)
    return found


def first_bad(study, schemes):
    """The index of the term and its place at which a beginning becomes bad, and how it does."""
    terms = [row[1] for row in study.rows]
    low = 0
    high = sum([count_of(term) for term in terms])
    word = study.word
    # What is bad stays bad with more places, so the first bad beginning is found by halves.
    while low < high:
        middle = (low + high) // 2
        now = beginning_word(study, schemes, beginnings_of(terms, middle))
        if now is None:
            low = middle + 1
        else:
            high = middle
            word = now
    if high == 0:
        return 0, (), word
    every = [(k, place) for k, term in enumerate(terms) for place in list(places(term))]
    index, place = every[high - 1]
    return index, place, word


def beginning_word(study, schemes, terms):
    """How other terms in the place of those of a study are bad, or None."""
    rows = [(row[0], term) for row, term in zip(study.rows, terms)]
    word = Study(study.book, schemes, rows, study.told).word
    return None if word == "great" else word


def with_stuck(definitions, used, faults):
    """The faults of definitions, with those of definitions that use others with a fault."""
    users = {name: [] for name in definitions}
    for name in definitions:
        for other in used[name]:
            users[other].append(name)
    found = {name: True for name in faults}
    waiting = list(found)
    while waiting:
        for name in users[waiting.pop()]:
            if name not in found:
                found[name] = True
                waiting.append(name)
    return {name: faults.get(name) or stuck_fault(definitions[name].term, found, name) for name in found}


def stuck_fault(term, faulty, own):
    """The fault of a term that uses a definition with a fault, other than its own one, or None."""
    for sort, word in words_of(term):
        if sort == "name" and word in faulty and word != own:
            return ("stuck", word)
    return None


def wheres_of(book, declarations):
    """The wheres of all defaults, then of all members of cases, that may have faults, a list."""
    found = []
    for row in declarations:
        if isinstance(row, Role):
            found.extend([("role", row.name, member[0]) for member in row.members if member[3] is not None])
    for row in declarations:
        if isinstance(row, Case) or (isinstance(row, Derive) and is_large(book.cases[row.name])):
            found.extend([("case", row.name, member[0]) for member in book.cases[row.name].members])
    return found


def is_large(case):
    """Whether a member of a derived case may be great.

    It has no other fault: its term asks nothing but wanted needs, which the needs of the case meet.
    """
    kinds = kinds_of(case.needs) + list(case.kinds)
    return size_of(*kinds) > MOST // 4
