"""The rows with which texts begin, gone through in order, each with its columns."""

from paperreader.columns import add_word, columns_of
from paperreader.errors import NoGrammar
from paperreader.looking import trimmed


class Texts:
    """The texts of a grammar, gone through word by word; a row that is no beginning has no columns."""

    def __init__(self, grammar):
        try:
            self.live = trimmed(grammar)
        except NoGrammar:
            self.live = None

    def at_nothing(self):
        """The columns of the row of nothing."""
        return [] if self.live is None else columns_of(self.live, ())

    def longer(self, columns, word):
        """The columns of a row with one word more."""
        if not columns:
            return []
        found = list(columns)
        add_word(self.live, found, word)
        return found if found[-1].held else []

    def is_text(self, columns):
        """Whether the row that has these columns is a text."""
        return len(columns) > 0 and 0 in columns[-1].begins_of(self.live.start)


def first_row(is_wanted, walked, words, most):
    """The first row of at most so many words that is wanted, or None.

    Of walked, a list of texts, the columns of the row are looked at, one list for each: a row with
    which none of the texts begins, and all that goes on from it, is not wanted.
    """
    begun = [texts.at_nothing() for texts in walked]
    if is_wanted(walked, begun):
        return ()
    level = [((), begun)]
    for many in range(1, most + 1):
        further = []
        for row, found in level:
            for word in words:
                longer = [texts.longer(columns, word) for texts, columns in zip(walked, found)]
                if is_wanted(walked, longer):
                    return row + (word,)
                # Of the longest rows none goes on: their columns need not be kept.
                if many < most and any(longer):
                    further.append((row + (word,), longer))
        level = further
    return None
