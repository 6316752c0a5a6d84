"""Mends: texts that cost least to make of a row."""

from paperreader.bounds import MOST_SHARED, check_told
from paperreader.errors import NoGrammar
from paperreader.leastcosts import SHARED, LeastCosts
from paperreader.leasttrees import trees_by
from paperreader.names import check_row


def mended(grammar, row):
    """(cost, tree): the least that a text costs to make of the row, and a tree of such a text."""
    check_row(row)
    costs = LeastCosts(grammar, row)
    if grammar.start not in costs.sizes:
        raise NoGrammar("there is no text")
    return (costs.cost_of(grammar.start, 0, len(row)), Mender(costs).tree_of((0, grammar.start, len(row))))


class Mender:
    """Trees that cost so little, each for a mark (begin, part, end): a part for the words between two places."""

    def __init__(self, costs):
        self.costs = costs
        self.grammar = costs.grammar
        self.firsts = trees_by(self.grammar, costs.sizes)
        self.plans = {}

    def tree_of(self, top):
        """The tree for a mark; what is alike in it is one tuple."""
        marks = self.marks_beneath(top)
        sizes = {}
        for mark in marks:
            sizes[mark] = self.size_of(mark, sizes)
        check_told(self.grammar, 0, sizes[top], MOST_SHARED)
        trees = {}
        for mark in marks:
            number, inner = self.plan_of(mark)
            if inner is None:
                trees[mark] = self.firsts[mark[1]]
            else:
                trees[mark] = (number, tuple([found if isinstance(found, str) else trees[found] for found in inner]))
        return trees[top]

    def marks_beneath(self, top):
        """The marks of which the tree for one is made up, each behind all within it."""
        order = []
        seen = {}
        todo = [(top, False)]
        while todo:
            mark, is_done = todo.pop()
            if is_done:
                order.append(mark)
            elif mark not in seen:
                seen[mark] = True
                todo.append((mark, True))
                inner = self.plan_of(mark)[1]
                if inner is not None:
                    todo.extend([(found, False) for found in inner if not isinstance(found, str)])
        return order

    def size_of(self, mark, sizes):
        """How many rules the tree for a mark has, by those of the marks within it."""
        inner = self.plan_of(mark)[1]
        if inner is None:
            return self.costs.sizes[mark[1]][1]
        return 1 + sum([sizes[found] for found in inner if not isinstance(found, str)])

    def plan_of(self, mark):
        """The rule on top of the tree for a mark, and the words and marks in it; None for both: the first tree."""
        if mark not in self.costs.origins:
            return (None, None)
        if mark not in self.plans:
            begin, _, end = mark
            number, at = self.costs.origins[mark]
            names = self.grammar.rules[number][1]
            places = [begin] * (at + 1) + [end] * (len(names) - at)
            if at == SHARED:
                places = self.places_shared(names, begin, end)
            inner = []
            for name, first, last in zip(names, places, places[1:]):
                inner.append((first, name, last) if self.grammar.has_part(name) else name)
            self.plans[mark] = (number, inner)
        return self.plans[mark]

    def places_shared(self, names, begin, end):
        """The places between the names where they share the words at the least cost, no part taking all."""
        behind = [{end: (0, end)}]
        for name in names[::-1]:
            behind.append(self.costs_ahead(name, behind[-1], begin, end))
        places = [begin]
        for costs in behind[:0:-1]:
            places.append(costs[places[-1]][1])
        return places

    def costs_ahead(self, name, behind, begin, end):
        """For each place the least cost of a name and all behind it, and the place behind the name."""
        costs = {}
        for first in range(begin, end + 1):
            found = []
            for last in behind:
                is_all = first == begin and last == end and self.grammar.has_part(name)
                if first <= last and not is_all:
                    found.append((self.costs.cost_of(name, first, last) + behind[last][0], last))
            if found:
                costs[first] = min(found)
        return costs
