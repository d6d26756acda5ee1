"""Primitives: functions that every program has."""

from leastneeds.errors import InvalidValue, NoPrimitive
from leastneeds.kinds import con, to
from leastneeds.schemes import Scheme
from leastneeds.terms import BOUND, LONGEST_TEXT, is_text, is_whole

# The words of the kinds of the arguments, then that of the result.
KINDS = {
    "plus": ("whole", "whole", "whole"),
    "minus": ("whole", "whole", "whole"),
    "times": ("whole", "whole", "whole"),
    "equal": ("whole", "whole", "truth"),
    "upto": ("whole", "whole", "truth"),
    "join": ("text", "text", "text"),
    "size": ("text", "whole"),
    "eqtext": ("text", "text", "truth"),
    "uptotext": ("text", "text", "truth"),
    "spell": ("whole", "text"),
}


class Primitives:
    """The primitives by their names."""

    NAMES = ("plus", "minus", "times", "equal", "upto", "join", "size", "eqtext", "uptotext", "spell")

    @staticmethod
    def told_scheme(name):
        """The scheme of a primitive."""
        check_primitive(name)
        kinds = [con(word) for word in KINDS[name]]
        return Scheme(to(*kinds))

    @staticmethod
    def done(name, *values):
        """The value of a primitive for all of its arguments."""
        check_primitive(name)
        words = KINDS[name][:-1]
        for index, value in enumerate(values):
            if index >= len(words) or not is_plain(value, words[index]):
                raise InvalidValue(index)
        if len(values) < len(words):
            raise InvalidValue(len(values))
        action = ACTIONS[name]
        contents = [value[1] for value in values]
        return action(*contents)


def check_primitive(name):
    """Raise NoPrimitive for any value that is no name of a primitive."""
    if not isinstance(name, str) or name not in KINDS:
        raise NoPrimitive(name)


def is_plain(value, word):
    """Whether any value is a value of the kind with this word, whole or text."""
    if not isinstance(value, tuple) or len(value) != 2 or value[0] != word:
        return False
    return is_whole(value[1]) if word == "whole" else is_text(value[1])


def bounded(number):
    """The value of an integer, which a bound replaces if it is beyond it."""
    return ("whole", max(-BOUND, min(BOUND, number)))


def truth(holds):
    """The value of a truth."""
    return ("made", "yes" if holds else "no", ())


def added(one, other):
    return bounded(one + other)


def lessened(one, other):
    return bounded(one - other)


def multiplied(one, other):
    return bounded(one * other)


def are_equal(one, other):
    return truth(one == other)


def are_in_row(one, other):
    return truth(one <= other)


def put_together(one, other):
    return ("text", (one + other)[:LONGEST_TEXT])


def length_of(text):
    return ("whole", len(text))


def spelled(number):
    return ("text", str(number))


ACTIONS = {
    "plus": added,
    "minus": lessened,
    "times": multiplied,
    "equal": are_equal,
    "upto": are_in_row,
    "join": put_together,
    "size": length_of,
    "eqtext": are_equal,
    "uptotext": are_in_row,
    "spell": spelled,
}
