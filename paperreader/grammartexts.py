"""Grammars written as texts, and read from them."""

from paperreader.errors import NoText
from paperreader.grammars import Grammar, is_rule

MOST_SIGNS = 20000


def written(grammar):
    """The text of a grammar: a row for each rule."""
    return "".join([f"{rule_text(rule)}\n" for rule in grammar.rules])


def rule_text(rule):
    """The row of a rule, without its line feed."""
    return " ".join([rule[0], "=", *rule[1]])


def is_text(thing):
    """Whether a thing is a text of signs from the blank to ~ and line feeds, not too long."""
    if not isinstance(thing, str) or len(thing) > MOST_SIGNS:
        return False
    return all(" " <= sign <= "~" or sign == "\n" for sign in thing)


def read(text):
    """The grammar that a text tells; NoText where it tells none."""
    rows = rows_of(text)
    rules = rules_told(rows)
    if not rules:
        raise NoText(len(rows) - 1)
    return Grammar(rules)


def rows_of(text):
    """The rows of a text; NoText of what is none."""
    if not is_text(text):
        raise NoText(0)
    return text.split("\n")


def rules_told(rows):
    """The rules that rows tell, each once; NoText of the first row that is not of such a form."""
    rules = {}
    for at, row in enumerate(rows):
        words = row.split()
        if tells_something(words):
            rule = rule_told(words)
            if rule is None:
                raise NoText(at)
            rules[rule] = True
    return list(rules)


def tells_something(words):
    """Whether a row of these words isn't passed over."""
    return len(words) > 0 and not words[0].startswith("#")


def rule_told(words):
    """The rule that the words of a row tell, or None."""
    rule = (words[0], tuple(words[2:]))
    if len(words) < 2 or words[1] != "=" or not is_rule(rule):
        return None
    return rule
