"""The ways down in trees, from a part to those beneath it, with the fewest rules beside them.

Beside a way stand trees of fewest rules; where it has to have a word beside it, and they have
none, one of them is a tree of fewest rules of those that have a word.
"""

from heapq import heappop, heappush

from paperreader.bounds import fewest_sizes
from paperreader.leasttrees import trees_by
from paperreader.looking import led_from


class Descents:
    """The steps down from each part, by rules that trees can have, and what stands beside them."""

    def __init__(self, grammar):
        self.grammar = grammar
        sizes = fewest_sizes(grammar)
        self.counts = {name: sizes[name][1] for name in sizes}
        self.trees = trees_by(grammar, sizes)
        self.rules = [pair for pair in enumerate(grammar.rules) if all(name in sizes for name in pair[1][1])]
        self.worded_counts = {word: 0 for word in grammar.words}
        while self.has_grown():
            pass
        self.worded_trees = self.trees_with_words()
        self.steps = {}
        for number, rule in self.rules:
            self.note_steps(number, rule)

    def count_over(self, names):
        """How many rules a tree has over trees of fewest rules of the names."""
        return 1 + sum([self.counts[name] for name in names])

    def least_word(self, names, beside):
        """(rules, place): where in the names a word costs the fewest rules more; None where none can stand.

        One place, beside, is passed over.
        """
        found = []
        for at, name in enumerate(names):
            if at != beside and name in self.worded_counts:
                found.append((self.worded_counts[name] - self.counts[name], at))
        return min(found, default=None)

    def has_grown(self):
        """Look through the rules once; whether some part has a lesser tree with a word by that."""
        is_grown = False
        for _, (part, names) in self.rules:
            least = self.least_word(names, None)
            if least is not None:
                count = self.count_over(names) + least[0]
                if part not in self.worded_counts or count < self.worded_counts[part]:
                    self.worded_counts[part] = count
                    is_grown = True
        return is_grown

    def trees_with_words(self):
        """For each word, and each part that has one, a tree of fewest rules that has a word."""
        tops = {}
        for number, (part, names) in self.rules:
            least = self.least_word(names, None)
            if least is not None and self.count_over(names) + least[0] == self.worded_counts[part]:
                tops.setdefault(part, (number, least[1]))
        trees = {word: word for word in self.grammar.words}
        for _, part in sorted([(self.worded_counts[part], part) for part in tops]):
            number, place = tops[part]
            trees[part] = (number, self.trees_beside(number, {place: trees}))
        return trees

    def trees_beside(self, number, others):
        """The trees of the names of a rule; at some places by other dicts of trees than those of fewest rules."""
        names = self.grammar.rules[number][1]
        return tuple([others.get(at, self.trees)[name] for at, name in enumerate(names)])

    def note_steps(self, number, rule):
        """Note the steps that a rule makes from its part, each where it costs less than those noted."""
        part, names = rule
        noted = self.steps.setdefault(part, {})
        for at, lower in enumerate(names):
            if self.grammar.has_part(lower):
                cost = self.count_over(names) - self.counts[lower]
                steps = [((lower, False), (cost, number, at, -1))]
                least = self.least_word(names, at)
                if least is not None:
                    steps.append(((lower, True), (cost + least[0], number, at, least[1])))
                for mark, step in steps:
                    noted[mark] = min(noted.get(mark, step), step)

    def parts_in_rings(self):
        """The parts that stand within trees of their own."""
        beneath = {part: [lower for lower, _ in self.steps[part]] for part in self.steps}
        return [part for part in beneath if part in led_from(beneath, beneath[part])]


class Below:
    """The ways down from a part, each to a mark: a part, and whether a word stands beside the way."""

    def __init__(self, descents, part):
        self.descents = descents
        self.top = (part, False)
        self.costs = {}
        self.uppers = {}
        queue = [(0, self.top, (), ())]
        while queue:
            cost, mark, upper, step = heappop(queue)
            if mark not in self.costs:
                self.costs[mark] = cost
                self.uppers[mark] = (upper, step)
                self.go_down(queue, mark, cost)

    def go_down(self, queue, mark, cost):
        """Queue the marks to which one step leads."""
        part, is_worded = mark
        steps = self.descents.steps.get(part, {})
        for lower, has_word in steps:
            more, number, at, beside = steps[(lower, has_word)]
            further = (lower, is_worded or has_word)
            if further not in self.costs:
                heappush(queue, (cost + more, further, mark, (number, at, beside)))

    def tree_with(self, mark, tree):
        """The top's tree in which this tree stands at a mark, and the path to it."""
        path = []
        while mark != self.top:
            mark, (number, at, beside) = self.uppers[mark]
            others = {beside: self.descents.worded_trees, at: {self.part_at(number, at): tree}}
            tree = (number, self.descents.trees_beside(number, others))
            path.append(at)
        return tree, tuple(path[::-1])

    def part_at(self, number, at):
        """The part at a place of a rule."""
        return self.descents.grammar.rules[number][1][at]
