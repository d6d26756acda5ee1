"""Lines of texts, and the pieces of which they are made."""

from leastneeds.errors import InvalidText
from leastneeds.names import is_name, is_word
from leastneeds.terms import is_text, is_whole

MOST_PIECES = 400

MARKS = ("(", ")", "=", "|", ":", ",", ".", "->", "_")

DIGITS = "0123456789"

# More characters than any integer of a term has.
LONGEST_INTEGER = 40

# What stands for a piece that no text has, and for the end of a line.
WRONG = ("wrong", "")
ENDED = ("ended", "")


class Line:
    """A line of a text, which is read piece by piece."""

    def __init__(self, text, number):
        rows = split_pieces(text)
        self.number = number
        self.pieces = [told_piece(row) for row in rows[:MOST_PIECES]]
        if len(rows) > MOST_PIECES:
            self.pieces.append(WRONG)
        self.index = 0

    def peek(self):
        """The next piece: its sort and what it says."""
        return self.pieces[self.index] if self.index < len(self.pieces) else ENDED

    def take(self):
        """The next piece, which is behind the reader then."""
        piece = self.peek()
        self.index += 1
        return piece

    def fail(self):
        """Raise InvalidText at the next piece."""
        raise InvalidText(self.number, self.index)

    def is_mark(self, sign):
        return self.peek() == ("mark", sign)

    def is_next_word(self, word):
        return self.peek() == ("word", word)

    def take_mark(self, sign):
        """Take this mark, which has to be next."""
        if not self.is_mark(sign):
            self.fail()
        self.take()

    def take_word(self, word):
        """Take this word, which has to be next."""
        if not self.is_next_word(word):
            self.fail()
        self.take()

    def has_name(self):
        """Whether a name is next."""
        sort, word = self.peek()
        return sort == "word" and is_name(word)

    def take_name(self):
        """Take a name, which has to be next."""
        if not self.has_name():
            self.fail()
        return self.take()[1]

    def take_end(self):
        """Raise InvalidText if the line goes on."""
        if self.peek() != ENDED:
            self.fail()


def split_pieces(text):
    """The pieces of a line as they stand there, a list."""
    found = []
    start = 0
    while start <= len(text):
        stop = end_of_piece(text, start)
        found.append(text[start:stop])
        start = stop + 1
    return found


def end_of_piece(text, start):
    """The index behind the piece that begins at an index."""
    at = start
    if text[start : start + 1] == '"':
        at = end_of_string(text, start)
    stop = text.find(" ", at)
    return len(text) if stop < 0 else stop


def end_of_string(text, start):
    """The index behind the string that begins at an index; the end of the line if it is not closed."""
    at = start + 1
    while at < len(text) and text[at] != '"':
        at += 2 if text[at] == "\\" else 1
    return min(at + 1, len(text))


def told_piece(text):
    """The sort of a piece and what it says."""
    if text in MARKS:
        return ("mark", text)
    if is_word(text):
        return ("word", text)
    if text[:1] == "'":
        return ("var", text[1:]) if is_name(text[1:]) else WRONG
    if text[:1] == '"':
        return told_string(text)
    return told_integer(text)


def told_integer(text):
    """The piece of an integer."""
    digits = text[1:] if text[:1] == "-" else text
    if not 1 <= len(digits) <= LONGEST_INTEGER or not all([sign in DIGITS for sign in digits]):
        return WRONG
    number = int(text)
    # Leading zeros, and a negative zero, would not be written so.
    if str(number) != text or not is_whole(number):
        return WRONG
    return ("whole", number)


def told_string(text):
    """The piece of a string."""
    signs = []
    at = 1
    while at < len(text) and text[at] != '"':
        if text[at] == "\\":
            at += 1
            if text[at : at + 1] not in ('"', "\\"):
                return WRONG
        signs.append(text[at])
        at += 1
    if at != len(text) - 1 or not is_text("".join(signs)):
        return WRONG
    return ("text", "".join(signs))
