"""What it costs to make one row of another one."""


def cost_between(row, other):
    """The least number of words taken out, put in or exchanged by which the row becomes the other one."""
    costs = list(range(len(other) + 1))
    for word in row:
        costs = costs_with(costs, word, other)
    return costs[-1]


def costs_with(costs, word, other):
    """What it costs to come to each beginning of the other row with one word more; costs tells it without that."""
    longer = [costs[0] + 1]
    for at, new in enumerate(other):
        exchanged = costs[at] if new == word else costs[at] + 1
        longer.append(min(exchanged, costs[at + 1] + 1, longer[at] + 1))
    return longer


def cost_of_word(words, word):
    """What a word costs for these words of a row: one is kept or exchanged for it, or it is put in."""
    if word in words:
        return len(words) - 1
    return max(len(words), 1)
