"""Of each node of a forest a tree of fewest rules, and the nearest ways down from a node."""

from heapq import heappop, heappush


class Fewest:
    """For each node how many rules its least tree has, and such a tree."""

    def __init__(self, forest):
        self.forest = forest
        self.counts = {}
        self.trees = {}
        uses = uses_of(forest)
        # Rising from the start on, so a heap already: a rule of which no name is read counts 1.
        queue = [(1, node, ()) for node, choices in enumerate(forest.choices) if () in choices]
        while queue:
            count, node, choice = heappop(queue)
            if node not in self.counts:
                self.counts[node] = count
                told = [self.trees[inner] for inner in choice]
                self.trees[node] = forest.joined(node, choice, told)
                for user, other in uses[node]:
                    if user not in self.counts and all(inner in self.counts for inner in other):
                        heappush(queue, (self.sum_of(other), user, other))

    def sum_of(self, nodes):
        """How many rules the least trees of the nodes have together."""
        return sum([self.counts[node] for node in nodes])


def uses_of(forest):
    """For each node the choices in which it stands, each with the node that has it."""
    uses = [[] for _ in forest.marks]
    for node, choices in enumerate(forest.choices):
        for choice in choices:
            for inner in choice:
                uses[inner].append((node, choice))
    return uses


class Ways:
    """The ways down from a node by at least one step, with the fewest rules beside them."""

    def __init__(self, fewest, top, within):
        self.fewest = fewest
        self.forest = fewest.forest
        self.top = top
        self.costs = {}
        self.uppers = {}
        queue = []
        self.go_down(queue, top, 0, within)
        while queue:
            cost, node, upper, choice = heappop(queue)
            if node not in self.costs:
                self.costs[node] = cost
                self.uppers[node] = (upper, choice)
                if node != top:
                    self.go_down(queue, node, cost, within)

    def go_down(self, queue, node, cost, within):
        """Queue the nodes of which one is made up; within: only those with the same places."""
        forest = self.forest
        for choice in forest.choices[node]:
            whole = self.fewest.sum_of(choice)
            for inner in choice:
                if not within or forest.marks[inner][-2:] == forest.marks[node][-2:]:
                    heappush(queue, (cost + whole - self.fewest.counts[inner], inner, node, choice))

    def tree_with(self, node, tree):
        """The top's tree in which this tree stands at the node, and the path to it."""
        path = []
        is_top = False
        while not is_top:
            upper, choice = self.uppers[node]
            told = [tree if inner == node else self.fewest.trees[inner] for inner in choice]
            tree = self.forest.joined(upper, choice, told)
            if self.forest.is_part(node):
                path.append(self.forest.marks[upper][1] - 1)
            node = upper
            is_top = node == self.top
        return tree, tuple(path[::-1])
