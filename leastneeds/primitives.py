"""Primitives: the functions that every program has."""


class Primitives:
    """The primitives by their names."""

    NAMES = ("plus", "minus", "times", "equal", "upto", "join", "size", "eqtext", "uptotext", "spell")
