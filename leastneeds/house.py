"""Houses: programs that change, and tell what a change comes to."""

from leastneeds.deeds import program_after
from leastneeds.errors import Broken, InvalidGuard, OutOfRange
from leastneeds.footprints import Layout, groups_looked_at, names_in_news
from leastneeds.names import is_integer, is_name
from leastneeds.plain import outcome_of, started
from leastneeds.schemes import Scheme
from leastneeds.within import is_clear_scheme, within


class House:
    """A program that is run by changes."""

    def __init__(self, program):
        self.program = program
        # All programs that can be had again, the present one at the index `moment`.
        self.history = (program,)
        self.moment = 0
        self.undone = 0
        self.depth = 0
        self.looked = tuple(sorted(list(Layout(program).groups)))
        self.news = ()

    def __eq__(self, other):
        return (
            isinstance(other, House)
            and not isinstance(other, GuardedHouse)
            and self.program == other.program
            and self.moment == other.moment
        )

    def scheme(self, name):
        """The scheme of a name in the present program."""
        return self.program.scheme(name)

    def fault(self, where):
        """The fault at a where of the present program, or None."""
        return self.program.fault(where)

    def run(self, name, *, limit=1000):
        """The outcome of a run of a definition of the present program."""
        return outcome_of(started(self.program, name, limit))

    def change(self, *deeds):
        """Do deeds, from left to right, as one change."""
        self.add_moment(program_after(self.program, deeds))

    def undo(self, count=1):
        """Undo so many changes."""
        if not is_integer(count) or not 0 <= count <= self.moment:
            raise OutOfRange(count)
        self.go_to(self.moment - count)

    def redo(self, count=1):
        """Redo so many changes."""
        if not is_integer(count) or not 0 <= count <= self.undone:
            raise OutOfRange(count)
        self.go_to(self.moment + count)

    def attempt(self, action):
        """Call an action with the house; all is as before if it raises an error."""
        history, moment, looked, news = self.history, self.moment, self.looked, self.news
        program, undone = self.program, self.undone
        ended = None
        self.depth += 1
        try:
            found = action(self)
            ended = True
        finally:
            if ended is None:
                self.history, self.moment, self.looked, self.news = history, moment, looked, news
                self.program, self.undone = program, undone
            self.depth -= 1
        return found

    def explore(self, action):
        """Call an action with the house; all is as before in any case."""
        history, moment, looked, news = self.history, self.moment, self.looked, self.news
        program, undone = self.program, self.undone
        self.depth += 1
        try:
            return action(self)
        finally:
            self.history, self.moment, self.looked, self.news = history, moment, looked, news
            self.program, self.undone = program, undone
            self.depth -= 1

    def copy(self):
        """A house with the same program and the same changes to undo and redo, in no trial."""
        found = House(self.program)
        take_changes(found, self)
        return found

    def add_moment(self, program):
        """Come to a new program by one more change."""
        self.history = self.history[: self.moment + 1] + (program,)
        self.go_to(self.moment + 1)

    def go_to(self, moment):
        """Come to the program at a moment."""
        before = Layout(self.program)
        self.program = self.history[moment]
        self.moment = moment
        self.undone = len(self.history) - 1 - moment
        after = Layout(self.program)
        self.looked = groups_looked_at(before, after)
        self.news = names_in_news(before, after)


class GuardedHouse(House):
    """A house in which changes keep some guards."""

    def __init__(self, program, *guards):
        for index, value in enumerate(guards):
            if not is_guard(value):
                raise InvalidGuard(index)
        check_guards(program, guards)
        House.__init__(self, program)
        self.guards = guards

    def __eq__(self, other):
        return (
            isinstance(other, GuardedHouse)
            and self.program == other.program
            and self.guards == other.guards
            and self.moment == other.moment
        )

    def change(self, *deeds):
        """Do deeds as one change; Broken if a guard would not hold afterwards."""
        program = program_after(self.program, deeds)
        check_guards(program, self.guards)
        self.add_moment(program)

    def undo(self, count=1):
        """Undo so many changes, whether the guards hold then or not."""
        super().undo(count)

    def redo(self, count=1):
        """Redo so many changes, whether the guards hold then or not."""
        super().redo(count)

    def copy(self):
        """A guarded house with the same program, guards and changes, in no trial."""
        # The guards may not hold where changes were undone, so they are not looked at.
        found = GuardedHouse(self.program)
        found.guards = self.guards
        take_changes(found, self)
        return found


def take_changes(house, other):
    """Give a new house the changes of another one."""
    house.history = other.history
    house.moment = other.moment
    house.undone = other.undone
    house.looked = other.looked
    house.news = other.news


def is_guard(value):
    """Whether any value is a guard."""
    if not isinstance(value, tuple) or len(value) < 2 or not is_name(value[1]):
        return False
    if len(value) == 2:
        return value[0] == "right"
    return len(value) == 3 and value[0] == "within" and isinstance(value[2], Scheme)


def check_guards(program, guards):
    """Raise Broken for the first guard that does not hold in a program."""
    for index, guard in enumerate(guards):
        if not is_kept(program, guard):
            raise Broken(index)


def is_kept(program, guard):
    """Whether a guard holds in a program."""
    name = guard[1]
    if name not in program.book.definitions or name in program.findings.faulty:
        return False
    if guard[0] == "right":
        return True
    return is_clear_scheme(program.book, guard[2]) and within(program, guard[2], program.scheme(name)) is not None
