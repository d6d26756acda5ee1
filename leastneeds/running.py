"""Runs, step by step."""

from leastneeds.primitives import Primitives
from leastneeds.values import DEEPEST, MOST_PARTS

# The most steps that a run may be limited to.
MOST_STEPS = 2000


class Run:
    """A run of terms with marks, which goes on from event to event.

    What it runs by is told by a home: the terms, and the contexts in which they are run. A context says
    which kinds, or which records, there are for what a term has in its marks.

    What a term comes to is a *thing*: a tuple of the value, the number of its parts, how deep it is, and
    what is within: of a made value the things, of a function what it does, else ().

    A scope tells what names stand for that are bound: ("thing", thing), or ("let", row, scope, context).
    """

    def __init__(self, home, limit):
        self.home = home
        self.book = home.book
        self.limit = limit
        self.numbers = {"arm": 0, "body": 0, "do": 0, "member": 0, "name": 0}
        self.steps = 0
        # How the run ended, None as long as it goes on, and the value to which it came.
        self.ending = None
        self.result = None
        # What is done next: ("term", term, scope, context) or ("thing", thing).
        self.task = None
        # What is done with things as they come, the last one first.
        self.frames = []

    def begin(self, where, context):
        """Begin with the term at a where."""
        self.task = ("term", self.home.run_term(where), {}, context)

    def next_event(self):
        """Go on to the next event and return it, None if the run ends before."""
        event = None
        while event is None and self.ending is None:
            if self.task[0] == "term":
                event = self.take_term(self.task[1], self.task[2], self.task[3])
            else:
                event = self.take_thing(self.task[1])
        return event

    def step(self, word, name):
        """The event of one step; None, at the end of the run, if it is one too many."""
        if self.steps == self.limit:
            self.ending = "limit"
            return None
        self.steps += 1
        self.numbers[word] += 1
        return (word, name)

    def take_term(self, term, scope, context):
        """Go one way into a term. The event of this, or None."""
        word = term[0]
        if word == "name":
            return self.take_name(term, scope, context)
        if word == "member":
            event = self.step("member", term[1])
            if event is not None:
                where, inner = self.home.entered_member(term, context)
                self.task = ("term", self.home.run_term(where), {}, inner)
            return event
        if word == "use":
            self.frames.append(("argument", term[2], scope, context))
            self.task = ("term", term[1], scope, context)
        elif word == "match":
            self.frames.append(("arms", term[2], scope, context))
            self.task = ("term", term[1], scope, context)
        elif word == "let":
            self.task = ("term", term[2], with_rows(scope, term[1], context), context)
        elif word == "given":
            self.task = ("thing", function_thing(("given", term[1], term[-1], scope, context)))
        else:
            self.task = ("thing", (term, 1, 1, ()))
        return None

    def take_name(self, term, scope, context):
        """Take what a name stands for. The event of this, or None."""
        name = term[1]
        entry = scope.get(name, ("declared",))
        if entry[0] == "thing":
            self.task = entry
            return None
        if entry[0] == "declared" and name not in self.book.definitions:
            self.task = ("thing", self.declared_thing(name))
            return None
        event = self.step("name", name)
        if event is not None and entry[0] == "let":
            inner = self.home.entered_let(term, entry[1], entry[3], context)
            self.task = ("term", entry[1][-1], entry[2], inner)
        elif event is not None:
            inner = self.home.entered_definition(term, context)
            self.task = ("term", self.home.run_term(("definition", name)), {}, inner)
        return event

    def declared_thing(self, name):
        """What a constructor or a primitive stands for."""
        many = self.home.argument_count(name)
        if many == 0:
            return made_thing(name, ())
        return function_thing(("lacking", name, many, ()))

    def take_thing(self, thing):
        """Do what waits for a thing. The event of this, or None."""
        if len(self.frames) == 0:
            self.ending = "value"
            self.result = thing[0]
            return None
        frame = self.frames.pop()
        if frame[0] == "argument":
            self.frames.append(("function", thing))
            self.task = ("term", frame[1], frame[2], frame[3])
            return None
        if frame[0] == "function":
            return self.apply(frame[1][3], thing)
        return self.choose(frame, thing)

    def apply(self, function, argument):
        """Apply what a function does to a thing. The event of this, or None."""
        if function[0] == "given":
            event = self.step("body", "")
            if event is not None:
                scope = with_things(function[3], (function[1],), (argument,))
                self.task = ("term", function[2], scope, function[4])
            return event
        _, name, many, arguments = function
        every = arguments + (argument,)
        if len(every) < many:
            self.task = ("thing", function_thing(("lacking", name, many, every)))
            return None
        if name in self.book.constructors:
            return self.make(name, every)
        event = self.step("do", name)
        if event is not None:
            values = [row[0] for row in every]
            self.task = ("thing", (Primitives.done(name, *values), 1, 1, ()))
        return event

    def make(self, name, fields):
        """Make the value of a constructor, unless it is too great."""
        thing = made_thing(name, fields)
        if thing[1] > MOST_PARTS or thing[2] > DEEPEST:
            self.ending = "great"
        self.task = ("thing", thing)

    def choose(self, frame, thing):
        """Choose an arm by a thing. The event of this, or None."""
        _, arms, scope, context = frame
        constructor = thing[0][1]
        event = self.step("arm", constructor)
        if event is not None:
            for name, names, body in arms:
                if name == constructor:
                    self.task = ("term", body, with_things(scope, names, thing[3]), context)
        return event


def function_thing(told):
    """The thing of a function that does what is told."""
    return (("function",), 1, 1, told)


def made_thing(name, fields):
    """The thing that a constructor makes of its fields."""
    value = ("made", name, tuple([row[0] for row in fields]))
    many = 1 + sum([row[1] for row in fields])
    deep = 1 + max([row[2] for row in fields], default=0)
    return (value, many, deep, fields)


def with_things(scope, names, things):
    """The scope in which names stand for things."""
    found = {name: scope[name] for name in scope}
    for name, thing in zip(names, things):
        found[name] = ("thing", thing)
    return found


def with_rows(scope, rows, context):
    """The scope in which the names of a ring of a let stand for their terms."""
    found = {name: scope[name] for name in scope}
    for row in rows:
        # The terms stand in the scope that has the names themselves.
        found[row[0]] = ("let", row, found, context)
    return found
