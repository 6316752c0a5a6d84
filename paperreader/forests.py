"""All trees of a row at once, folded up so that what is alike stands there once.

A node stands for a part read from one place to another one, marked (part, begin, end), or
for the first names of a rule so read, marked (number, dot, begin, end). A node has choices:
each is a tuple of the nodes that make it up, and each tree comes of just one choice at
each of its nodes. Node 0 is the start read along the whole row.
"""

from paperreader.columns import columns_of


class Forest:
    """The nodes that stand in some tree of the row; node 0 has no choice where there is none."""

    def __init__(self, grammar, columns):
        self.grammar = grammar
        self.columns = columns
        self.marks = []
        self.nodes = {}
        self.choices = []
        self.node_of((grammar.start, 0, len(columns) - 1))
        while len(self.choices) < len(self.marks):
            self.choices.append(self.choices_of(self.marks[len(self.choices)]))

    def node_of(self, mark):
        """The node with this mark, a new one where there was none."""
        if mark not in self.nodes:
            self.nodes[mark] = len(self.marks)
            self.marks.append(mark)
        return self.nodes[mark]

    def choices_of(self, mark):
        """The ways to make up what the mark stands for."""
        if len(mark) == 3:
            return self.choices_of_part(mark)
        number, dot, begin, end = mark
        if dot == 0:
            return [()]
        name = self.grammar.rules[number][1][dot - 1]
        if not self.grammar.has_part(name):
            return [(self.node_of((number, dot - 1, begin, end - 1)),)]
        choices = []
        for place in sorted(self.columns[end].begins_of(name)):
            if (number, dot - 1, begin) in self.columns[place].held:
                ahead = self.node_of((number, dot - 1, begin, place))
                choices.append((ahead, self.node_of((name, place, end))))
        return choices

    def choices_of_part(self, mark):
        """For each rule by which the part is so read, that rule read whole."""
        part, begin, end = mark
        choices = []
        for number in self.grammar.rules_of(part):
            length = self.grammar.length_of(number)
            if (number, length, begin) in self.columns[end].held:
                choices.append((self.node_of((number, length, begin, end)),))
        return choices

    def is_part(self, node):
        """Whether a node stands for a part, and not for the first names of a rule."""
        return len(self.marks[node]) == 3

    def joined(self, node, choice, told):
        """The tree, or the tuple of trees, of a node, from those of the nodes of its choice."""
        if self.is_part(node):
            return (self.marks[choice[0]][0], told[0])
        if len(choice) == 0:
            return ()
        if len(choice) == 2:
            return told[0] + (told[1],)
        number, dot, _, _ = self.marks[node]
        return told[0] + (self.grammar.rules[number][1][dot - 1],)


def forest_of(grammar, row):
    """The trees of a row."""
    return Forest(grammar, columns_of(grammar, row))


def inner_first(forest):
    """The nodes, each behind all of which it is made up; no node is made up of itself."""
    order = []
    seen = {}
    todo = [(0, False)]
    while todo:
        node, is_done = todo.pop()
        if is_done:
            order.append(node)
        elif node not in seen:
            seen[node] = True
            todo.append((node, True))
            for choice in forest.choices[node]:
                todo.extend([(inner, False) for inner in choice])
    return order
