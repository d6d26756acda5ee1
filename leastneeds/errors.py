"""The errors that the package raises: each one keeps its fields."""


class InvalidForm(ValueError):
    """An argument of a declaration has not its form; word is its name."""

    def __init__(self, word):
        self.word = word


class InvalidDeclaration(ValueError):
    """An argument of a program is no declaration."""

    def __init__(self, index):
        self.index = index


class InvalidPicks(ValueError):
    """The picks of a program are of another form."""


class Repeated(ValueError):
    """A declaration declares a name that is taken."""

    def __init__(self, index):
        self.index = index


class BadArms(ValueError):
    """A match has not exactly the constructors of one data."""

    def __init__(self, index):
        self.index = index


class Misshapen(ValueError):
    """The declarations up to this one have no shapes."""

    def __init__(self, index):
        self.index = index


class RoleRing(ValueError):
    """A role is above itself."""

    def __init__(self, index):
        self.index = index


class BadMembers(ValueError):
    """The members of a case are not those of its role."""

    def __init__(self, index):
        self.index = index


class Grows(ValueError):
    """A need of a case is not smaller than its head."""

    def __init__(self, index, need):
        self.index = index
        self.need = need


class Uncovered(ValueError):
    """A variable of a settled kind is not in the kind that settles it."""

    def __init__(self, index):
        self.index = index


class Underivable(ValueError):
    """A derived case has no needs that fit its head."""

    def __init__(self, word, need):
        self.word = word
        self.need = need


class Clash(ValueError):
    """Two cases of one role may be meant by one need."""

    def __init__(self, index, other):
        self.index = index
        self.other = other


class Unsupported(ValueError):
    """A need above the role of a case is not met by its needs."""

    def __init__(self, index, number):
        self.index = index
        self.number = number


class Improper(ValueError):
    """The needs of a declaration are not steady, or hopeless."""

    def __init__(self, index):
        self.index = index


class InvalidKind(ValueError):
    """A value is no kind."""

    def __init__(self, value):
        self.value = value


class InvalidNeed(ValueError):
    """A value is no need."""

    def __init__(self, value):
        self.value = value


class InvalidScheme(ValueError):
    """A scheme is not clear."""

    def __init__(self, value):
        self.value = value


class InvalidCount(ValueError):
    """There is another number of kinds than of variables."""

    def __init__(self, number):
        self.number = number


class InvalidValue(ValueError):
    """An argument of a primitive is not of the kind that is needed."""

    def __init__(self, index):
        self.index = index


class InvalidLimit(ValueError):
    """A limit is no integer that limits a run."""

    def __init__(self, limit):
        self.limit = limit


class InvalidMarked(ValueError):
    """An argument is no place with a right marked term."""

    def __init__(self, index):
        self.index = index


class InvalidText(ValueError):
    """A text is wrong at this piece of this line."""

    def __init__(self, line, piece):
        self.line = line
        self.piece = piece


class InvalidDeed(ValueError):
    """An argument of a change is no deed."""

    def __init__(self, index):
        self.index = index


class InvalidGuard(ValueError):
    """An argument of a guarded house is no guard."""

    def __init__(self, index):
        self.index = index


class NotClosed(ValueError):
    """The scheme of a definition has variables."""

    def __init__(self, word):
        self.word = word


class Unknown(LookupError):
    """A declaration has a name that is not declared."""

    def __init__(self, index, word):
        self.index = index
        self.word = word


class UnknownName(LookupError):
    """A value is none of the names that are asked for."""

    def __init__(self, value):
        self.value = value


class OutOfTerm(LookupError):
    """A value is no place of a term."""

    def __init__(self, place):
        self.place = place


class NoPrimitive(LookupError):
    """A value is no name of a primitive."""

    def __init__(self, word):
        self.word = word


class NoDefinition(LookupError):
    """A value is no name of a definition."""

    def __init__(self, word):
        self.word = word


class NoCore(LookupError):
    """A term is not bad, so it has no core."""

    def __init__(self, where):
        self.where = where


class Unmet(LookupError):
    """A need is not met."""

    def __init__(self, need):
        self.need = need


class OutOfRange(LookupError):
    """A value is no number of changes that are there."""

    def __init__(self, value):
        self.value = value


class Known(LookupError):
    """The key of a deed is there."""

    def __init__(self, index):
        self.index = index


class Missing(LookupError):
    """The key of a deed is not there."""

    def __init__(self, index):
        self.index = index


class Faulty(RuntimeError):
    """A program has a fault."""

    def __init__(self, where):
        self.where = where


class Wrong(RuntimeError):
    """A term has a fault."""

    def __init__(self, found):
        self.found = found


class Broken(RuntimeError):
    """A guard does not hold."""

    def __init__(self, index):
        self.index = index
