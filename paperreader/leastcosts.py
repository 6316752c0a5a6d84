"""What each fruitful part costs at least for all words of a row that stand side by side.

The costs are found for ever more words. For so many of them at one place first comes what a rule
costs where its names share the words; then what it costs where one part of it takes all of them
and the other names are put in: that is gone along from the cheapest part on.
"""

from heapq import heapify, heappop, heappush

from paperreader.bounds import first_sizes
from paperreader.costs import cost_of_word
from paperreader.tails import tails_of

# In the place of the name that takes all words: the names share them.
SHARED = -1


class LeastCosts:
    """The costs of parts; where one is less than that of its first row, origins tells by which rule it is so."""

    def __init__(self, grammar, row):
        self.grammar = grammar
        self.row = row
        self.sizes = first_sizes(grammar)
        self.rules = [pair for pair in enumerate(grammar.rules) if all(name in self.sizes for name in pair[1][1])]
        self.tails = tails_of([rule for _, rule in self.rules])
        places = range(len(row) + 1)
        # For each place what a name costs for no words behind it, for one, and so on.
        self.costs = {name: [[self.sizes[name][0]] for _ in places] for name in self.sizes}
        # For each place what is left of a rule costs for no words ahead of it, for one, and so on.
        self.ahead = {tail: [[self.words_put_in(tail)] for _ in places] for tail in self.tails}
        self.origins = {}
        self.uppers = {}
        for number, (part, names) in self.rules:
            self.note_uppers(number, part, names)
        for many in range(1, len(row) + 1):
            for begin in range(len(row) - many + 1):
                self.settle(begin, begin + many)

    def words_put_in(self, names):
        """What the names cost for no words at all."""
        return sum([self.sizes[name][0] for name in names])

    def cost_of(self, name, begin, end):
        """What a name costs for the words between two places."""
        return self.costs[name][begin][end - begin]

    def cost_of_first(self, part, begin, end):
        """What it costs to take all words between two places out, and put in the part's first row."""
        return self.sizes[part][0] + end - begin

    def note_uppers(self, number, part, names):
        """Note for each part in a rule what the rule costs more than it where it takes all words."""
        whole = self.words_put_in(names)
        for at, name in enumerate(names):
            if self.grammar.has_part(name):
                self.uppers.setdefault(name, []).append((whole - self.sizes[name][0], part, number, at))

    def settle(self, begin, end):
        """Find what all parts cost for the words between two places; for fewer words that is found already."""
        many = end - begin
        words = self.row[begin:end]
        for name in list(self.costs):
            is_part = self.grammar.has_part(name)
            cost = self.cost_of_first(name, begin, end) if is_part else cost_of_word(words, name)
            self.costs[name][begin].append(cost)
        for tail in self.tails:
            self.ahead[tail][end].append(self.least_shared(tail, begin, end))
        queue = []
        for number, (part, names) in self.rules:
            cost = self.ahead[names][end][many]
            if cost < self.costs[part][begin][many]:
                queue.append((cost, part, number, SHARED))
        self.go_up(queue, begin, end)
        for tail in self.tails:
            if len(tail) > 0:
                self.settle_tail(tail, begin, end)

    def least_shared(self, tail, begin, end):
        """What names cost for the words, with those costs of parts for all of them that are told so far."""
        if len(tail) == 0:
            return end - begin
        if len(tail) == 1:
            return self.cost_of(tail[0], begin, end)
        behind = self.ahead[tail[1:]][end][::-1]
        return min([one + other for one, other in zip(self.costs[tail[0]][begin], behind)])

    def go_up(self, queue, begin, end):
        """Settle the parts, the cheapest first; each may be what makes others cheaper."""
        many = end - begin
        heapify(queue)
        while queue:
            cost, part, number, at = heappop(queue)
            if cost < self.costs[part][begin][many]:
                self.costs[part][begin][many] = cost
                self.origins[(begin, part, end)] = (number, at)
                for more, upper, user, place in self.uppers.get(part, []):
                    if cost + more < self.costs[upper][begin][many]:
                        heappush(queue, (cost + more, upper, user, place))

    def settle_tail(self, tail, begin, end):
        """Tell what names cost for the words, now that it is settled what parts cost for all of them."""
        many = end - begin
        costs = self.costs[tail[0]][begin]
        behind = self.ahead[tail[1:]][end]
        told = self.ahead[tail][end]
        told[many] = min(told[many], costs[many] + behind[0], costs[0] + behind[many])
