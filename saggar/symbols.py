"""Symbols: texts that have numbers."""

from saggar.errors import NoSymbol

LONGEST = 4000


class Symbols:
    """A table of texts, numbered in the order in which they were added."""

    def __init__(self, most=100000):
        self.most = most
        self._texts = []
        self._numbers = {}

    def count(self):
        """Returns how many texts there are."""
        return len(self._texts)

    def number(self, text):
        """Returns the number of a text, which is added if it is new."""
        if text in self._numbers:
            return self._numbers[text]
        if len(text) > LONGEST:
            raise NoSymbol(LONGEST)
        if self.count() >= self.most:
            raise NoSymbol(self.most)
        self._numbers[text] = self.count()
        self._texts.append(text)
        return self._numbers[text]

    def knows(self, text):
        """Returns True if a text has a number."""
        return text in self._numbers

    def text(self, number):
        """Returns the text with a number."""
        return self._texts[number]

    def texts(self):
        """Returns the list of all texts by their numbers."""
        return list(self._texts)

    def cut(self, count):
        """Lets only the texts with numbers below a count keep them."""
        for text in self._texts[count:]:
            del self._numbers[text]
        self._texts = self._texts[:count]
