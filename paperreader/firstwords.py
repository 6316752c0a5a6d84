"""With which words the rows begin that come of names; words told as bits of a number.

Bit 0 is the end of a row, `""`, bit 1 the grammar's first word, and so on, rising.
"""

from paperreader.looking import made_of
from paperreader.tables import TOP_RULE


class FirstWords:
    """For each word, and each part of which rows come, the bits of the words with which they begin."""

    def __init__(self, grammar):
        self.grammar = grammar
        self.signs = ("",) + grammar.words
        self.bits = {sign: 1 << at for at, sign in enumerate(self.signs)}
        self.live = made_of(grammar, {word: True for word in grammar.words})
        self.hollow = made_of(grammar, {})
        self.masks = {word: self.bits[word] for word in grammar.words}
        self.known = {}
        while self.has_grown():
            pass

    def has_grown(self):
        """Look through the rules once; whether some part has more words by that."""
        is_grown = False
        for part, names in self.grammar.rules:
            mask = self.masks.get(part, 0)
            longer = mask | self.of_names(names)[0]
            if longer != mask:
                self.masks[part] = longer
                is_grown = True
        return is_grown

    def of_names(self, names):
        """The bits of the words with which rows of these names begin, and whether the row of nothing is one."""
        mask = 0
        if not all(name in self.live for name in names):
            return (mask, False)
        for name in names:
            mask = mask | self.masks.get(name, 0)
            if name not in self.hollow:
                return (mask, False)
        return (mask, True)

    def names_of(self, number):
        """The names of a rule; of the rule -1 the start."""
        if number == TOP_RULE:
            return (self.grammar.start,)
        return self.grammar.rules[number][1]

    def next_name(self, number, dot):
        """The next name in a rule, or None where all are read."""
        names = self.names_of(number)
        return names[dot] if dot < len(names) else None

    def behind(self, number, dot):
        """The same of the names of a rule from the dot on."""
        if (number, dot) not in self.known:
            self.known[(number, dot)] = self.of_names(self.names_of(number)[dot:])
        return self.known[(number, dot)]

    def signs_in(self, mask):
        """The words, and `""`, of which the bits stand in a number, rising."""
        found = []
        while mask > 0:
            at = (mask & -mask).bit_length() - 1
            found.append(self.signs[at])
            mask = mask & (mask - 1)
        return found
