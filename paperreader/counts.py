"""How many trees of so many rules there are, and trees opened rule by rule with what may still come."""

from paperreader.tails import tails_of


class Counts:
    """For each part, and for what is left of each rule, in how many ways it has so many rules, up to most."""

    def __init__(self, grammar, most):
        self.grammar = grammar
        self.most = most
        self.of_part = {part: [0] for part in grammar.parts}
        tails = tails_of(grammar.rules)
        self.of_tail = {tail: [] for tail in tails}
        for size in range(most):
            for tail in tails:
                self.of_tail[tail].append(self.count_of(tail, size))
            for part in grammar.parts:
                ways = [self.of_tail[grammar.rules[number][1]][size] for number in grammar.rules_of(part)]
                self.of_part[part].append(sum(ways))

    def count_of(self, tail, size):
        """In how many ways names have so many rules; those behind the first one are counted already."""
        if len(tail) == 0:
            return 1 if size == 0 else 0
        behind = self.of_tail[tail[1:]]
        if not self.grammar.has_part(tail[0]):
            return behind[size]
        return sum_of_products(self.of_part[tail[0]], behind[size::-1])

    def joined(self, tail, behind):
        """In how many ways names, and what stands behind them, have so many rules, for each number below most."""
        ways = self.of_tail[tail]
        return [sum_of_products(ways, behind[size::-1]) for size in range(self.most)]


def sum_of_products(ones, others):
    """The sum of the products of numbers that stand at the same place."""
    return sum([one * other for one, other in zip(ones, others)])


class Going:
    """A tree of a part with so many rules, opened rule by rule from the left.

    On the pile lie the names still to come of the rules that are open, each with the ways in
    which what lies beneath has so many rules.
    """

    def __init__(self, counts, part, rules):
        self.counts = counts
        self.grammar = counts.grammar
        self.left = rules
        self.pile = [((part,), [1] + [0] * (rules - 1))]

    def next_part(self):
        """The part that comes next, what is left behind it in its rule, and the ways of what lies beneath."""
        names, beneath = self.pile.pop()
        while not names or not self.grammar.has_part(names[0]):
            if names:
                names = names[1:]
            else:
                names, beneath = self.pile.pop()
        self.pile.append((names, beneath))
        return names[0], names[1:], beneath

    def rules_next(self):
        """For each rule of the part that comes next in how many trees it stands there, with all opened so far."""
        part, tail, beneath = self.next_part()
        behind = self.counts.joined(tail, beneath)[self.left - 1::-1]
        rules = self.grammar.rules
        numbers = self.grammar.rules_of(part)
        return [(number, sum_of_products(self.counts.of_tail[rules[number][1]], behind)) for number in numbers]

    def rule_at(self, n):
        """The rule by which the next part is opened in the tree of this number, and its number among those by it."""
        choices = self.rules_next()
        at = 0
        while n >= choices[at][1]:
            n -= choices[at][1]
            at += 1
        return choices[at][0], n

    def open_by(self, number):
        """Open the next part by a rule."""
        _, tail, beneath = self.next_part()
        self.pile[-1] = (tail, beneath)
        self.pile.append((self.grammar.rules[number][1], self.counts.joined(tail, beneath)))
        self.left -= 1
