"""Changed grammars looked at by the words of the document, rule by rule."""

from itertools import combinations

from tests.textlooks import rows_by_part


def empty_parts(grammar):
    """The parts of which the row of nothing comes."""
    return {part for part, rows in rows_by_part(grammar, 0).items() if () in rows}


def starts_first(grammar, rules):
    """Whether the start's rules stand ahead of all others."""
    ahead = [part == grammar.rules[0][0] for part, _ in rules]
    return ahead == sorted(ahead, reverse=True) and ahead[0]


def parts_known(grammar):
    return {part for part, _ in grammar.rules}


def names_known(grammar):
    """All names in a grammar."""
    return {name for part, names in grammar.rules for name in (part,) + names}


def without_bare_ones(grammar, rules):
    """The rules without those with a part that is left without rules."""
    while True:
        left = {part for part, _ in rules}
        bare = parts_known(grammar) - left
        kept = {rule for rule in rules if not bare & set(rule[1])}
        if kept == rules:
            return kept
        rules = kept


def filled_rules(grammar):
    """The rules of the filled grammar; none of the start where there is no such grammar."""
    hollow = empty_parts(grammar)
    rules = set()
    for part, names in grammar.rules:
        spots = [at for at, name in enumerate(names) if name in hollow]
        for many in range(len(spots) + 1):
            for out in combinations(spots, many):
                rules.add((part, tuple(name for at, name in enumerate(names) if at not in out)))
    return without_bare_ones(grammar, {rule for rule in rules if rule[1]})


def straight_rules(grammar):
    """The rules of the straight grammar."""
    parts = parts_known(grammar)
    pairs = {(part, part) for part in parts}
    while True:
        more = {(one, names[0]) for one, two in pairs for part, names in grammar.rules
                if part == two and len(names) == 1 and names[0] in parts}
        if more <= pairs:
            break
        pairs |= more
    rules = {(one, names) for one, two in pairs for part, names in grammar.rules
             if part == two and not (len(names) == 1 and names[0] in parts)}
    return without_bare_ones(grammar, rules)


def unfolded_rules(grammar, k, at):
    """The rules with rule k unfolded at a place."""
    part, names = grammar.rules[k]
    made = {(part, names[:at] + inner + names[at + 1:]) for other, inner in grammar.rules if other == names[at]}
    return {rule for number, rule in enumerate(grammar.rules) if number != k} | made


def turned_rules(grammar, part, new):
    """The rules with a part turned, by a new part of that name."""
    rules = set()
    for other, names in grammar.rules:
        if other != part:
            rules.add((other, names))
        elif names[:1] == (part,):
            rules |= {(new, names[1:]), (new, names[1:] + (new,))}
        else:
            rules |= {(part, names), (part, names + (new,))}
    return rules


def untwined_rules(grammar, second):
    """The rules of the second grammar with its new parts put back where they stand; None where one is not used once."""
    new = names_known(second) - names_known(grammar)
    rules = set()
    used = [name for _, names in second.rules for name in names if name in new]
    if sorted(used) != sorted(new) or sorted(part for part, _ in second.rules if part in new) != sorted(new):
        return None
    behind = {part: names for part, names in second.rules if part in new}
    for part, names in second.rules:
        if part not in new:
            while names and names[-1] in new:
                names = names[:-1] + behind[names[-1]]
            rules.add((part, names))
    return rules


def begins_with_itself(grammar):
    """The parts that begin, by whatever rules, with themselves."""
    hollow = empty_parts(grammar)
    begun = set()
    for part, names in grammar.rules:
        for name in names:
            begun.add((part, name))
            if name not in hollow:
                break
    while True:
        more = {(one, other) for one, two in begun for first, other in begun if two == first}
        if more <= begun:
            return {one for one, two in begun if one == two}
        begun |= more


def texts_alike(test, change, most, without=()):
    """Hold the texts of both grammars against each other, up to a length."""
    first = rows_by_part(change.first, most)[change.first.rules[0][0]]
    second = rows_by_part(change.second, most)[change.second.rules[0][0]]
    test.assertEqual(first - set(without), second)
