"""Grammars to be: their rules, and what each of them comes of."""

from paperreader.errors import NoGrammar, TooMany
from paperreader.grammars import MOST_NAMES, Grammar, numbers_by_part, words_of
from paperreader.names import MOST_LETTERS

MOST_DRAFTED = 3000
LETTERS = "abcdefghijklmnopqrstuvwxyz"


class Draft:
    """The rules of a grammar to be, the start's first; there may be more of them, and longer ones, than a grammar has.

    They are told by a dict from rules to lists of sources: of what in another grammar each comes.
    By the first one of its sources a rule is carried back.
    """

    def __init__(self, start, found):
        ahead = [rule for rule in found if rule[0] == start]
        if not ahead:
            raise NoGrammar("the start is left without rules")
        self.start = start
        self.rules = tuple(ahead + [rule for rule in found if rule[0] != start])
        self.numbers = numbers_by_part(self.rules)
        self.parts = tuple(self.numbers)
        self.words = words_of(self.rules, self.numbers)
        self.by_rule = {rule: number for number, rule in enumerate(self.rules)}
        self.sources = [found[rule][0] for rule in self.rules]
        self.by_source = {source: self.by_rule[rule] for rule in found for source in found[rule]}

    def rules_of(self, part):
        """The numbers of the part's rules, rising."""
        return self.numbers[part]

    def has_part(self, name):
        """Whether a name is one of the parts."""
        return name in self.numbers

    def as_grammar(self):
        """The grammar; TooMany of more rules, or more names in one, than a grammar has."""
        if any(len(names) > MOST_NAMES for _, names in self.rules):
            raise TooMany("a rule has at most 8 names")
        return Grammar(self.rules)


def check_drafted(found):
    """Refuse so many rules that no grammar would come of them."""
    if len(found) > MOST_DRAFTED:
        raise TooMany("more rules than a grammar has")


def without_bare(grammar, found):
    """The rules found, but those with a part of the grammar that is left without rules."""
    many = -1
    while many != len(found):
        many = len(found)
        left = {rule[0]: True for rule in found}
        bare = {part: True for part in grammar.parts if part not in left}
        found = {rule: found[rule] for rule in found if not any(name in bare for name in rule[1])}
    return found


class NewNames:
    """Names that stand nowhere in a grammar, each told once."""

    def __init__(self, grammar):
        self.used = {name: True for name in grammar.parts + grammar.words}
        self.many = 0

    def fresh(self):
        """The next such name."""
        name = letters_of(self.many)
        while name in self.used:
            self.many += 1
            name = letters_of(self.many)
        self.used[name] = True
        return name


def letters_of(number):
    """A name for each number."""
    text = ""
    for _ in range(MOST_LETTERS):
        text = LETTERS[number % len(LETTERS)] + text
        number = number // len(LETTERS)
    return text.lstrip(LETTERS[0]) or LETTERS[0]
