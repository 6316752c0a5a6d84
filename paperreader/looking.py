"""Grammars looked through: what is fruitful, reached, empty, in rings."""

from paperreader.errors import NoGrammar
from paperreader.grammars import Grammar


def fruitful(grammar):
    """The parts of which some row of words comes, in the grammar's order."""
    return listed(grammar, made_of(grammar, {word: True for word in grammar.words}))


def reached(grammar):
    """The start and the parts in what comes of it, in the grammar's order."""
    return listed(grammar, led_from(parts_beneath(grammar.rules), [grammar.start]))


def empties(grammar):
    """The parts of which the row of nothing comes, in the grammar's order."""
    return listed(grammar, made_of(grammar, {}))


def rings(grammar):
    """The parts that lead to themselves, in the grammar's order."""
    leads = leads_of(grammar)
    return [part for part in grammar.parts if part in led_from(leads, leads.get(part, []))]


def barren(grammar, parts):
    """Whether a thing is a list of parts of which each rule has one of them."""
    if not isinstance(parts, (list, tuple)) or not all(grammar.has_part(part) for part in parts):
        return False
    chosen = {part: True for part in parts}
    for part, names in grammar.rules:
        if part in chosen and not any(name in chosen for name in names):
            return False
    return True


def trimmed(grammar):
    """The grammar of the rules that trees of the start can have."""
    return Grammar(live_rules(grammar))


def live_rules(grammar):
    """The rules that trees of the start can have, the start's first; NoGrammar where it has no tree."""
    good = made_of(grammar, {word: True for word in grammar.words})
    if grammar.start not in good:
        raise NoGrammar("no row of words comes of the start")
    rules = [rule for rule in grammar.rules if all(name in good for name in rule[1])]
    kept = led_from(parts_beneath(rules), [grammar.start])
    rules = [rule for rule in rules if rule[0] in kept]
    ahead = [rule for rule in rules if rule[0] == grammar.start]
    return ahead + [rule for rule in rules if rule[0] != grammar.start]


def listed(grammar, names):
    """The parts among the names, in the grammar's order."""
    return [part for part in grammar.parts if part in names]


def made_of(grammar, names):
    """The names and the parts of which rows of them come, as a dict."""
    found = dict(names)
    many = -1
    while many < len(found):
        many = len(found)
        for part, behind in grammar.rules:
            if all(name in found for name in behind):
                found[part] = True
    return found


def parts_beneath(rules):
    """For each part all names in its rules."""
    beneath = {}
    for part, names in rules:
        beneath.setdefault(part, []).extend(names)
    return beneath


def led_from(steps, names):
    """The names and all to which steps lead from them, as a dict."""
    found = {}
    todo = list(names)
    while todo:
        name = todo.pop()
        if name not in found:
            found[name] = True
            todo.extend(steps.get(name, []))
    return found


def leads_of(grammar):
    """For each part those to which it leads in one step."""
    hollow = made_of(grammar, {})
    leads = {}
    for part, names in grammar.rules:
        leads.setdefault(part, []).extend(led_to(grammar, names, hollow))
    return leads


def led_to(grammar, names, hollow):
    """The parts among the names beside which all others are empty parts."""
    solid = [name for name in names if name not in hollow]
    if len(solid) == 0:
        return names
    if len(solid) == 1 and grammar.has_part(solid[0]):
        return solid
    return []
