"""Tolls: numbers that show that no mend of a row costs less."""

from paperreader.costs import cost_of_word
from paperreader.leastcosts import LeastCosts
from paperreader.names import check_row, is_number, is_number_below
from paperreader.tails import tails_of

LEAST_CAP = 1000


def toll_of(grammar, row):
    """A fair toll that has for the start and the whole row what a mend costs; 1000 where there is no text."""
    check_row(row)
    least = LeastCosts(grammar, row)
    # Of a part that isn't fruitful no sum is less than this: so a toll that is nowhere more is fair.
    cap = LEAST_CAP
    if grammar.start in least.sizes:
        cap = max(cap, least.cost_of(grammar.start, 0, len(row)))
    toll = {}
    for begin, part, end in keys_of(grammar, len(row)):
        cost = least.cost_of(part, begin, end) if part in least.sizes else cap
        toll[(begin, part, end)] = min(cost, cap)
    return toll


def keys_of(grammar, many):
    """The triples that a toll for a row of so many words has as keys."""
    places = range(many + 1)
    return [(begin, part, end) for begin in places for part in grammar.parts for end in places if begin <= end]


def is_fair(grammar, row, toll):
    """Whether a thing is a toll for the row that is fair."""
    check_row(row)
    if not is_toll(grammar, len(row), toll):
        return False
    places = range(len(row) + 1)
    sums = sums_of_rules(grammar, row, toll)
    for part, names in grammar.rules:
        for end in places:
            if any(toll[(begin, part, end)] > cost for begin, cost in enumerate(sums[names][end])):
                return False
    return True


def is_toll(grammar, many, thing):
    """Whether a thing is a dict from all triples for a row of so many words to numbers from 0 on."""
    # Where each key is one of these triples and there are as many as those, all of them are there.
    if not isinstance(thing, dict) or len(thing) != len(grammar.parts) * (many + 1) * (many + 2) // 2:
        return False
    if not all(is_key(grammar, many, key) for key in thing):
        return False
    return all(is_number(cost) and cost >= 0 for cost in thing.values())


def is_key(grammar, many, thing):
    """Whether a thing is a triple of a place, a part and a place that isn't ahead of the first one."""
    if not isinstance(thing, tuple) or len(thing) != 3 or not grammar.has_part(thing[1]):
        return False
    return is_number_below(thing[2], many + 1) and is_number_below(thing[0], thing[2] + 1)


def sums_of_rules(grammar, row, toll):
    """For what is left of each rule, for each place, the least sums from all places ahead of it up to there."""
    many = len(row)
    places = range(many + 1)
    costs = {}
    for name in grammar.parts + grammar.words:
        costs[name] = [[cost_by(grammar, row, toll, name, begin, end) for end in range(begin, many + 1)]
                       for begin in places]
    sums = {(): [[end - begin for begin in range(end + 1)] for end in places]}
    for tail in tails_of(grammar.rules):
        if len(tail) == 1:
            sums[tail] = [[costs[tail[0]][begin][end - begin] for begin in range(end + 1)] for end in places]
        elif len(tail) > 1:
            sums[tail] = [joined(costs[tail[0]], ahead) for ahead in sums[tail[1:]]]
    return sums


def cost_by(grammar, row, toll, name, begin, end):
    """What a name costs for the words between two places, a part by the toll."""
    if grammar.has_part(name):
        return toll[(begin, name, end)]
    return cost_of_word(row[begin:end], name)


def joined(costs, behind):
    """The least sums, from each place, of a name's cost up to a place and the sum behind that."""
    return [
        min([one + other for one, other in zip(costs[begin], behind[begin:])]) for begin in range(len(behind))
    ]
