"""Grammars: lists of rules, kept as they were handed in."""

from paperreader.errors import NoGrammar, TooMany
from paperreader.names import are_names, is_name

MOST_RULES = 300
MOST_NAMES = 8


class Grammar:
    """A grammar of 1 to 300 unlike rules; the first part is its start."""

    def __init__(self, rules):
        check_rules(rules)
        self.rules = tuple(rules)
        self.numbers = numbers_by_part(self.rules)
        self.parts = tuple(self.numbers)
        self.words = words_of(self.rules, self.numbers)
        self.start = self.parts[0]
        self.known = {word: True for word in self.words}

    def rules_of(self, part):
        """The numbers of the part's rules, rising; none of what is no part."""
        if not self.has_part(part):
            return []
        return list(self.numbers[part])

    def has_part(self, name):
        """Whether a name is one of the parts."""
        return isinstance(name, str) and name in self.numbers

    def has_word(self, name):
        """Whether a name is one of the words."""
        return name in self.known

    def length_of(self, number):
        """How many names stand behind the part in a rule."""
        return len(self.rules[number][1])


def is_rule(thing):
    """Whether a thing is a tuple of a name and a tuple of 0 to 8 names."""
    if not isinstance(thing, tuple) or len(thing) != 2:
        return False
    return is_name(thing[0]) and are_names(thing[1], MOST_NAMES)


def check_rules(rules):
    """Refuse what is no list of 1 to 300 unlike rules."""
    if not isinstance(rules, (list, tuple)) or len(rules) == 0:
        raise NoGrammar("a grammar is a list of 1 to 300 rules")
    if not all(is_rule(rule) for rule in rules):
        raise NoGrammar("a rule is a tuple of a name and a tuple of 0 to 8 names")
    if len({rule: True for rule in rules}) < len(rules):
        raise NoGrammar("a rule is told twice")
    if len(rules) > MOST_RULES:
        raise TooMany("a grammar has at most 300 rules")


def numbers_by_part(rules):
    """For each part, as they first come, the numbers of its rules."""
    numbers = {}
    for number, rule in enumerate(rules):
        numbers.setdefault(rule[0], []).append(number)
    return numbers


def words_of(rules, parts):
    """The names in rules that are no parts, rising."""
    found = {}
    for rule in rules:
        for name in rule[1]:
            if name not in parts:
                found[name] = True
    return tuple(sorted(found))
