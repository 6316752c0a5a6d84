"""A row that is kept while words of it are put in, taken out and exchanged."""

from paperreader.charts import items_of
from paperreader.columns import add_word, columns_of
from paperreader.errors import NoDeed
from paperreader.names import MOST_WORDS, check_row, is_name, is_number_below
from paperreader.readings import least_tree


class Kept:
    """A row, with the columns of its least closed chart; those ahead of a change stay."""

    def __init__(self, grammar, row):
        check_row(row)
        self.grammar = grammar
        self.row = row
        self.columns = columns_of(grammar, row)
        self.charted = [items_of(column) for column in self.columns]
        self.standing = []
        self.stayed = 0

    def now(self):
        """The row as it is now."""
        return self.row

    def chart(self):
        """The least closed chart for the row."""
        return tuple(self.charted)

    def reading_now(self):
        """What `reading` tells of the row."""
        tree = least_tree(self.grammar, self.columns)
        return ("chart", self.chart()) if tree is None else ("tree", tree)

    def put(self, at, word):
        """Put a word in at a place."""
        if not is_number_below(at, len(self.row) + 1) or not is_name(word) or len(self.row) == MOST_WORDS:
            raise NoDeed("there is no such place, or the word is no name, or one too many")
        self.do_deed(at, self.row[:at] + (word,) + self.row[at:])

    def cut(self, at):
        """Take the word at a place out."""
        if not is_number_below(at, len(self.row)):
            raise NoDeed("there is no word at such a place")
        self.do_deed(at, self.row[:at] + self.row[at + 1:])

    def change(self, at, word):
        """Exchange the word at a place."""
        if not is_number_below(at, len(self.row)) or not is_name(word):
            raise NoDeed("there is no word at such a place, or the new one is no name")
        self.do_deed(at, self.row[:at] + (word,) + self.row[at + 1:])

    def back(self):
        """Undo the last deed that stands."""
        if not self.standing:
            raise NoDeed("there is no deed to be undone")
        at, row = self.standing.pop()
        self.renew(at, row)

    def kept(self):
        """How many columns stayed the very same in the last deed; 0 ahead of any."""
        return self.stayed

    def do_deed(self, at, row):
        """Make the row another one from a place on, and note how it was."""
        self.standing.append((at, self.row))
        self.renew(at, row)

    def renew(self, at, row):
        """Keep the columns up to a place, and make those behind it anew."""
        self.row = row
        self.stayed = at + 1
        del self.columns[at + 1:]
        del self.charted[at + 1:]
        for word in row[at:]:
            add_word(self.grammar, self.columns, word)
            self.charted.append(items_of(self.columns[-1]))
