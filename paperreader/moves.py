"""Exact changes: trimming, rules of two, unfolding, turning."""

from paperreader.changes import change_by
from paperreader.drafts import NewNames
from paperreader.errors import NoDeed
from paperreader.names import is_number_below
from paperreader.stages import Parting, Trimming, Unfolding
from paperreader.turning import Turning


def trimming(grammar):
    """The change to the trimmed grammar; NoGrammar where there is none."""
    return change_by(grammar, [Trimming(grammar)], True)


def twos(grammar):
    """The change to a grammar whose rules have at most two names."""
    return change_by(grammar, [Parting(grammar, NewNames(grammar), 2)], True)


def unfolding(grammar, k, at):
    """The change by which a rule gives way to those of the part at one of its places."""
    check_unfolding(grammar, k, at)
    return change_by(grammar, [Unfolding(grammar, {k: at})], True)


def check_unfolding(grammar, k, at):
    """Refuse what is no part in a rule, and one that gives way to rules that are there."""
    if not is_number_below(k, len(grammar.rules)) or not is_number_below(at, grammar.length_of(k)):
        raise NoDeed("there is no such name")
    part, names = grammar.rules[k]
    if not grammar.has_part(names[at]) or names[at] == part:
        raise NoDeed("the name is no part, or the rule's own")
    for number in grammar.rules_of(names[at]):
        if (part, names[:at] + grammar.rules[number][1] + names[at + 1:]) in grammar.rules:
            raise NoDeed("a rule is there already")


def turning(grammar, part):
    """The change by which a part's rules that begin with it give way to ones that end with a new part."""
    numbers = grammar.rules_of(part)
    corners = {number: True for number in numbers if grammar.rules[number][1][:1] == (part,)}
    # Of what is no part there are no rules.
    if len(corners) in (0, len(numbers)) or (part, (part,)) in grammar.rules:
        raise NoDeed("none or all of the part's rules begin with it, or one is of it alone")
    return change_by(grammar, [Turning(grammar, corners, NewNames(grammar), grammar.parts)], True)
