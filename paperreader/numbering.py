"""Trees of so many rules: how many there are, and each by its number in order."""

from paperreader.counts import Counts, Going
from paperreader.errors import NoDeed, NoPart, NoTree
from paperreader.names import is_number, is_number_below
from paperreader.trees import check_tree, root_of, steps_of, tree_along

MOST_NUMBERED = 20


def count_trees(grammar, part, rules):
    """How many trees of a part have so many rules (1 to 20)."""
    check_asked(grammar, part, rules)
    return Counts(grammar, rules).of_part[part][rules]


def nth_tree(grammar, part, rules, n):
    """The tree of a part with so many rules that has this number, from 0, in order."""
    check_asked(grammar, part, rules)
    counts = Counts(grammar, rules)
    if not is_number_below(n, counts.of_part[part][rules]):
        raise NoDeed("there are not so many trees")
    going = Going(counts, part, rules)
    steps = []
    while len(steps) < rules:
        number, n = going.rule_at(n)
        steps.append(number)
        going.open_by(number)
    return tree_along(grammar, steps)


def place_of(grammar, tree):
    """The number of a tree of a part among those with as many rules."""
    check_tree(grammar, tree)
    steps = steps_of(tree)
    if not 1 <= len(steps) <= MOST_NUMBERED:
        raise NoTree("no tree of a part with 1 to 20 rules")
    going = Going(Counts(grammar, len(steps)), root_of(grammar, tree), len(steps))
    place = 0
    for step in steps:
        place += sum([many for number, many in going.rules_next() if number < step])
        going.open_by(step)
    return place


def check_asked(grammar, part, rules):
    """Refuse what is no part, then what is no number of rules."""
    if not grammar.has_part(part):
        raise NoPart("no part of the grammar")
    if not is_number(rules) or not 1 <= rules <= MOST_NUMBERED:
        raise NoDeed("trees of 1 to 20 rules are numbered")
