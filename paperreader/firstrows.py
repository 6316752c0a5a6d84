"""The first row of each part: of those that come of it one of fewest words, then as Python orders tuples."""

from heapq import heappop, heappush


def first_rows(grammar, most):
    """For each word, and each part that has a row of at most so many words, its first row."""
    rows = {word: (word,) for word in grammar.words}
    uses = uses_of_parts(grammar)
    queue = []
    for rule in grammar.rules:
        queue_row(queue, rows, rule, most)
    while queue:
        _, row, part = heappop(queue)
        if part not in rows:
            rows[part] = row
            for rule in uses.get(part, []):
                queue_row(queue, rows, rule, most)
    return rows


def uses_of_parts(grammar):
    """For each name the rules in which it stands."""
    uses = {}
    for rule in grammar.rules:
        for name in sorted(set(rule[1])):
            uses.setdefault(name, []).append(rule)
    return uses


def queue_row(queue, rows, rule, most):
    """Queue the row that a rule makes of those that stand, where it is wanted and not too long."""
    part, names = rule
    if part in rows or not all(name in rows for name in names):
        return
    if sum([len(rows[name]) for name in names]) <= most:
        row = row_over(rows, names)
        heappush(queue, (len(row), row, part))


def row_over(rows, names):
    """The rows of the names, one behind the other."""
    return tuple([word for name in names for word in rows[name]])
