"""The reader that goes by a table from word to word."""

from paperreader.errors import TooMany
from paperreader.names import check_row

MOST_MAKES = 2999


def run(grammar, table, row):
    """("tree", tree), or ("wrong", place, words): where it went wrong, and the words that have a deed there."""
    check_row(row)
    reader = Reader(grammar, table)
    at = 0
    while True:
        word = row[at] if at < len(row) else ""
        deed = reader.deed_at(word)
        if deed[0] == "end" and len(reader.trees) == 1:
            return ("tree", reader.trees[0])
        if deed[0] == "shift":
            reader.put(deed[1], word)
            reader.makes = 0
            at += 1
        elif deed[0] != "make" or not reader.has_made(deed[1]):
            return ("wrong", at, reader.words_here())


class Reader:
    """A pile of states and one of trees; how many makes there were since a word was shifted."""

    def __init__(self, grammar, table):
        self.grammar = grammar
        self.table = table
        self.places = [0]
        self.trees = []
        self.makes = 0

    def deed_at(self, word):
        """The deed of the state on top at a word, or one that is none."""
        return self.table.deeds[self.places[-1]].get(word, ("none",))

    def words_here(self):
        """The words that have a deed in the state on top, rising."""
        return tuple([word for word, _ in self.table.states[self.places[-1]][0]])

    def put(self, place, tree):
        """Put a state and a tree on the piles."""
        self.places.append(place)
        self.trees.append(tree)

    def has_made(self, number):
        """Make a rule of the trees on top; False, and nothing done, where that can't be."""
        if number >= len(self.grammar.rules) or self.grammar.length_of(number) > len(self.trees):
            return False
        many = len(self.trees) - self.grammar.length_of(number)
        place = self.table.goes[self.places[many]].get(self.grammar.rules[number][0])
        if place is None:
            return False
        if self.makes == MOST_MAKES:
            raise TooMany("too many rules made without a word between")
        self.makes += 1
        inner = tuple(self.trees[many:])
        del self.places[many + 1:]
        del self.trees[many:]
        self.put(place, (number, inner))
        return True
