"""Names: which strings are names, and the names in their order."""

LETTERS = "abcdefghijklmnopqrstuvwxyz"

LONGEST = 8

BARRED = {
    "data": True,
    "role": True,
    "case": True,
    "define": True,
    "derive": True,
    "picks": True,
    "above": True,
    "settles": True,
    "member": True,
    "as": True,
    "if": True,
    "given": True,
    "let": True,
    "and": True,
    "in": True,
    "match": True,
    "end": True,
}


def is_word(value):
    """Whether any value is a string of 1 to 8 letters from a to z."""
    if not isinstance(value, str) or not 1 <= len(value) <= LONGEST:
        return False
    return value.isascii() and value.isalpha() and value.islower()


def is_name(value):
    """Whether any value is a name."""
    return is_word(value) and value not in BARRED


def is_integer(value):
    """Whether any value is an integer (True and False are none)."""
    return isinstance(value, int) and not isinstance(value, bool)


def letters_at(index):
    """The word with this index in the row a, b, .. z, aa, ab, .."""
    word = ""
    left = index + 1
    while left > 0:
        left, letter = divmod(left - 1, len(LETTERS))
        word = LETTERS[letter] + word
    return word


def first_names(count):
    """So many names, a tuple: the first ones of a, b, .. z, aa, ab, .. that are names."""
    return names_beside(count, ())


def names_beside(count, taken):
    """So many names, a tuple: the first ones of a, b, .. z, aa, ab, .. that are names and not taken."""
    found = []
    index = 0
    while len(found) < count:
        word = letters_at(index)
        if is_name(word) and word not in taken:
            found.append(word)
        index += 1
    return tuple(found)
