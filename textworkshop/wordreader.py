"""Lines that are read word by word, as their forms want it."""

from textworkshop.errors import BadText
from textworkshop.words import line_words


class WordReader:
    """Goes over the words of a line; raises BadText at the first word that cannot stand there."""

    def __init__(self, line, number):
        self._words = line_words(line)
        self._number = number
        self._end = len(line) + 1
        self._at = 0

    def coming(self):
        """The name or the bracket that comes next; the empty text if there is none."""
        if self._at < len(self._words) and self._words[self._at][0] in ("name", "bracket"):
            return self._words[self._at][1]
        return ""

    def skipped(self, word):
        """Goes behind a name or a bracket if it comes next; tells whether it does."""
        if self.coming() != word:
            return False
        self._at += 1
        return True

    def chosen(self, words):
        """The next word, which must be one of these names and brackets."""
        word = self.coming()
        if word not in words:
            self.refuse("name")
        self._at += 1
        return word

    def quoted(self):
        """What the next word, a quoted one, stands for."""
        return self._taken("quoted")

    def whole(self):
        """The next word, a number."""
        return self._taken("number")

    def finish(self):
        """The line must end here."""
        if self._at < len(self._words):
            self.refuse("name")

    def _taken(self, kind):
        """The value of the next word, which must be of this kind."""
        if self._at == len(self._words) or self._words[self._at][0] != kind:
            self.refuse(kind)
        self._at += 1
        return self._words[self._at - 1][1]

    def refuse(self, kind):
        """Raises BadText: a word of this kind should stand here."""
        if self._at == len(self._words):
            raise BadText(self._number, self._end)
        found, value, column = self._words[self._at]
        raise BadText(self._number, value if found == f"bad {kind}" else column)
