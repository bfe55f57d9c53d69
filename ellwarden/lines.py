"""Reading lines word by word: BadLine tells the first word that cannot stand where it is."""

from ellwarden.dims import read_product
from ellwarden.errors import BadLine, BadRatio
from ellwarden.names import is_name
from ellwarden.ratios import is_whole, read_ratio

LONGEST = 300
DIGITS = 30


class Reader:
    """A place among the words of some lines. What is taken is judged, and the place goes on."""

    def __init__(self, lines):
        # Two blanks together, or one at an end, enclose an empty word, which stands nowhere.
        self._rows = [line.split(" ") for line in lines]
        self._line = 0
        self._word = 0

    def head(self):
        """The first word of the next line that is not empty; None behind the last line. To be
        asked for at the start of a line."""
        while self._line < len(self._rows) and self._rows[self._line] == [""]:
            self._line += 1
        return self.peek()

    def peek(self):
        """The word that is reached; None behind the last word that a line can have."""
        row = self._rows[self._line] if self._line < len(self._rows) else []
        return row[self._word] if self._word < min(len(row), LONGEST) else None

    def take(self):
        """The word that is reached, which the caller has judged."""
        word = self.peek()
        self._word += 1
        return word

    def refuse(self):
        """BadLine for the word that is reached."""
        raise BadLine(self._line, self._word)

    def take_word(self, *words):
        """One of these words."""
        if self.peek() not in words:
            self.refuse()
        return self.take()

    def take_name(self, *words):
        """A name, or one of these words."""
        if self.peek() not in words and not is_name(self.peek()):
            self.refuse()
        return self.take()

    def take_text(self):
        """Any word that is not empty."""
        if self.peek() in (None, ""):
            self.refuse()
        return self.take()

    def take_integer(self):
        """An integer."""
        word = self.peek()
        if word is None or not is_whole(word, DIGITS):
            self.refuse()
        return int(self.take())

    def take_number(self):
        """An integer from 0 on."""
        if self.peek() is not None and self.peek().startswith("-"):
            self.refuse()
        return self.take_integer()

    def has_ratio(self):
        """Whether the word that is reached is a ratio."""
        try:
            read_ratio(self.peek())
        except BadRatio:
            return False
        return True

    def take_ratio(self):
        """A ratio."""
        if not self.has_ratio():
            self.refuse()
        return read_ratio(self.take())

    def take_dimension(self, bases):
        """A dimension, by a product text of the bases."""
        dimension = read_product(self.peek(), bases)
        if dimension is None:
            self.refuse()
        self._word += 1
        return dimension

    def end_line(self):
        """Goes on to the next line; the one that is reached must be at its end."""
        if self._word < len(self._rows[self._line]):
            self.refuse()
        self._line += 1
        self._word = 0

    def end_lines(self):
        """Asks that nothing but empty lines is left."""
        if self.head() is not None:
            self.refuse()
