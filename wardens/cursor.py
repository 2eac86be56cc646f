"""The place up to which the words of a source have been taken."""

from wardens.errors import SourceError
from wardens.words import RESERVED, words_of


class Cursor:
    """Takes the words of a source one after the other, without going back."""

    def __init__(self, text):
        self.words = words_of(text)
        self.taken = 0

    def kind_here(self):
        """Returns the kind of the next word."""
        return self.words[self.taken][0]

    def word_here(self):
        """Returns the next word; at the end of the source it is the empty string."""
        return self.words[self.taken][1]

    def place_here(self):
        """Returns the pair (line, column) of the next word."""
        _, _, line, column = self.words[self.taken]
        return line, column

    def fault(self, what):
        """Raises SourceError with a text, at the next word."""
        line, column = self.place_here()
        raise SourceError(line, column, what)

    def take(self):
        """Takes the next word and returns it."""
        word = self.word_here()
        self.taken += 1
        return word

    def take_if(self, word):
        """Takes the next word if it is this one, and returns whether it was."""
        if self.word_here() != word:
            return False
        self.taken += 1
        return True

    def take_only(self, word):
        """Takes the next word, which has to be this one."""
        if not self.take_if(word):
            self.fault(f"expected {word}")

    def name_is_here(self):
        """Returns whether the next word is a name."""
        return self.kind_here() == "word" and self.word_here() not in RESERVED

    def take_name(self):
        """Takes a name and returns it."""
        if not self.name_is_here():
            self.fault("expected a name")
        return self.take()

    def take_number(self):
        """Takes a number and returns it as an integer."""
        if self.kind_here() != "number":
            self.fault("expected a number")
        return int(self.take())
