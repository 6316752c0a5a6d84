"""Mends and tolls looked at by the words of the document."""

from functools import lru_cache
from itertools import combinations_with_replacement, product


@lru_cache(maxsize=None)
def distance(row, other):
    """The least number of words taken out, put in or exchanged, by trying all on the first words."""
    if not row or not other:
        return len(row) + len(other)
    if row[0] == other[0]:
        return distance(row[1:], other[1:])
    return 1 + min(distance(row[1:], other), distance(row, other[1:]), distance(row[1:], other[1:]))


def keys_by_look(grammar, row):
    """The keys of a toll."""
    places = range(len(row) + 1)
    return {(i, part, j) for i, part, j in product(places, grammar.parts, places) if i <= j}


def word_by_look(row, i, word, j):
    """What a word costs for words i to j of the row."""
    cost = j - i if j > i else 1
    return cost - 1 if word in row[i:j] else cost


def sum_by_look(grammar, row, toll, names, places):
    """The sum of what names cost between places."""
    return sum(
        toll[(i, name, j)] if name in grammar.parts else word_by_look(row, i, name, j)
        for name, i, j in zip(names, places, places[1:])
    )


def least_sum(grammar, row, toll, names, i, j):
    """The least sum over all places between the names."""
    if not names:
        return j - i
    return min(
        sum_by_look(grammar, row, toll, names, (i,) + between + (j,))
        for between in combinations_with_replacement(range(i, j + 1), len(names) - 1)
    )


def is_fair_by_look(grammar, row, toll):
    """Whether what is a toll is fair."""
    return all(
        toll[(i, part, j)] <= least_sum(grammar, row, toll, names, i, j)
        for part, names in grammar.rules for i in range(len(row) + 1) for j in range(i, len(row) + 1)
    )


def least_costs_by_look(grammar, row, texts):
    """What the parts cost at least, by all their rows up to a length; None where there are none."""
    return {
        (i, part, j): min((distance(row[i:j], text) for text in texts[part]), default=None)
        for i, part, j in keys_by_look(grammar, row)
    }
