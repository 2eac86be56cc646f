"""The words of a source."""

from wardens.errors import SourceError

RESERVED = (
    "const", "part", "var", "from", "move", "when", "do", "sensor", "lossy", "define", "require",
    "implies", "or", "and", "since", "not", "next", "all", "can", "must", "before", "once", "always",
    "min", "max", "true", "false",
)
BLANKS = " \t\n"
LETTERS = "abcdefghijklmnopqrstuvwxyzABCDEFGHIJKLMNOPQRSTUVWXYZ_"
DIGITS = "0123456789"
# A sign stands before each sign with which it begins: the first one that fits is taken.
SIGNS = (
    ":=", "..", "<=", ">=", "!=", "+-", "{", "}", "(", ")", "[", "]", ";", ":", ",", ".",
    "<", ">", "=", "+", "-", "*",
)
LONGEST = {"word": 20, "number": 7}


def words_of(text):
    """Returns the list of the words of a source, each as (kind, word, line, column), and its end."""
    words = []
    place, line, column = 0, 1, 1
    while place < len(text):
        kind, size = find_piece(text, place)
        if kind == "unknown" or size > LONGEST.get(kind, size):
            raise SourceError(line, column, "unknown character")
        piece = text[place:place + size]
        if kind != "blank":
            words.append((kind, piece, line, column))
        place += size
        column += size
        if piece == "\n":
            line += 1
            column = 1
    words.append(("end", "", line, column))
    return words


def find_piece(text, place):
    """Returns the kind and the length of what begins at a place; a comment counts as a blank."""
    first = text[place]
    if first in BLANKS:
        return "blank", 1
    if first == "#":
        return "blank", comment_length(text, place)
    if first in LETTERS:
        return "word", length_of(text, place, LETTERS + DIGITS)
    if first in DIGITS:
        return "number", length_of(text, place, DIGITS)
    for sign in SIGNS:
        if text.startswith(sign, place):
            return "sign", len(sign)
    return "unknown", 1


def comment_length(text, place):
    """Returns the length of the comment at a place, without the newline behind it."""
    stop = text.find("\n", place)
    if stop == -1:
        stop = len(text)
    return stop - place


def length_of(text, place, characters):
    """Returns how many characters from a place on are among those given."""
    stop = place
    while stop < len(text) and text[stop] in characters:
        stop += 1
    return stop - place
