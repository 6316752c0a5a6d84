"""The texts of a grammar up to a length, found by joining rows until nothing new comes of it."""

from itertools import product


def rows_by_part(grammar, most):
    """For each part the set of all rows of at most so many words that come of it."""
    rows = {part: set() for part in grammar.parts}
    is_new = True
    while is_new:
        is_new = False
        for part, names in grammar.rules:
            made = joined_rows(rows, names, most)
            if not made <= rows[part]:
                rows[part] |= made
                is_new = True
    return rows


def joined_rows(rows, names, most):
    """The rows of names, of at most so many words."""
    made = {()}
    for name in names:
        nexts = rows[name] if name in rows else {(name,)}
        made = {one + other for one in made for other in nexts if len(one) + len(other) <= most}
    return made


def texts_up_to(grammar, most):
    """The set of all texts of at most so many words."""
    return rows_by_part(grammar, most)[grammar.rules[0][0]]


def all_rows(words, most):
    """All rows of these words up to a length."""
    for many in range(most + 1):
        yield from product(words, repeat=many)


def first_of(rows):
    """The first of the rows, by their lengths, then as Python orders tuples; None where there is none."""
    return min(rows, key=lambda row: (len(row), row), default=None)


def beginnings_of(texts):
    """All beginnings of the texts."""
    return {text[:at] for text in texts for at in range(len(text) + 1)}
