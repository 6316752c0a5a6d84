"""The first row that is a text and that a machine takes, with a tree of it.

An item (number, dot, begin, place) stands for so many names of a rule, led along from one place
to another one. Items are settled in order of their least rows, and where rows are the same of
the fewest rules for them: what makes up an item is settled ahead of it. Rows are told as texts of
codes, one for each word, all of one length, which are ordered as the words are.
"""

from heapq import heappop, heappush

from paperreader.bounds import MOST_SHARED, check_told
from paperreader.errors import TooMany
from paperreader.machines import has_place

MOST_WORDS = 10000
FIGURES = 4


class Meeting:
    """The items settled, each with its row, its rules and the place ahead of its last name."""

    def __init__(self, grammar, machine):
        self.grammar = grammar
        self.machine = machine
        self.codes = {word: str(at).zfill(FIGURES) for at, word in enumerate(grammar.words)}
        self.best = {}
        self.origins = {}
        # Parts led along: (begin, part, place), each with its row, its rules and the rule that it has on top.
        self.settled = {}
        self.ends = {}
        self.waiting = {}
        self.queue = []
        for number in range(len(grammar.rules)):
            for place in range(machine.many):
                self.offer(number, 0, place, place, ("", 1), place)

    def offer(self, number, dot, begin, place, told, middle):
        """Queue an item with this row and so many rules, where it hasn't a lesser one."""
        text, rules = told
        length = len(text)
        item = (number, dot, begin, place)
        if length <= MOST_WORDS * FIGURES and (item not in self.best or (length, text, rules) < self.best[item]):
            self.best[item] = (length, text, rules)
            heappush(self.queue, (length, text, rules, item, middle))

    def first_tree(self):
        """A tree of the first row that is a text and taken, of fewest rules; TooMany where it is too large."""
        goals = {(0, self.grammar.start, end): True for end in self.machine.ends}
        while self.queue:
            _, text, rules, item, middle = heappop(self.queue)
            if item not in self.origins:
                self.origins[item] = middle
                goal = self.settle(text, rules, item)
                if goal in goals:
                    check_told(self.grammar, rules, rules, MOST_SHARED)
                    return self.tree_of(goal)
        raise TooMany("a row of more words than are told")

    def settle(self, text, rules, item):
        """Queue what comes of an item; the part that it leads along, where that is newly settled, or None."""
        number, dot, begin, place = item
        part, names = self.grammar.rules[number]
        if dot < len(names):
            self.lead_on(text, rules, item, names[dot])
            return None
        led = (begin, part, place)
        if led in self.settled:
            return None
        self.settled[led] = (text, rules, number)
        self.ends.setdefault((begin, part), []).append(place)
        for ahead, count, (upper, at, first, _) in self.waiting.get((begin, part), []):
            self.offer(upper, at + 1, first, place, (ahead + text, count + rules), begin)
        return led

    def lead_on(self, text, rules, item, name):
        """Queue what comes of an item by its next name, and let it wait for more."""
        number, dot, begin, place = item
        if self.grammar.has_part(name):
            self.waiting.setdefault((place, name), []).append((text, rules, item))
            for further in self.ends.get((place, name), []):
                behind, count, _ = self.settled[(place, name, further)]
                self.offer(number, dot + 1, begin, further, (text + behind, rules + count), place)
        else:
            steps = self.machine.relation_of(name)[place]
            for further in range(self.machine.many):
                if has_place(steps, further):
                    self.offer(number, dot + 1, begin, further, (text + self.codes[name], rules), place)

    def tree_of(self, goal):
        """The tree of a settled part; what is alike in it is one tuple."""
        used = {goal: True}
        # All of which a part is made up was settled ahead of it.
        for led in list(self.settled)[::-1]:
            if led in used:
                used.update({inner: True for inner in self.made_of(led) if not isinstance(inner, str)})
        trees = {}
        for led in self.settled:
            if led in used:
                inner = [found if isinstance(found, str) else trees[found] for found in self.made_of(led)]
                trees[led] = (self.settled[led][2], tuple(inner))
        return trees[goal]

    def made_of(self, led):
        """The words and the parts led along of which a settled part is made up."""
        begin, _, place = led
        number = self.settled[led][2]
        names = self.grammar.rules[number][1]
        found = []
        for dot in range(len(names), 0, -1):
            middle = self.origins[(number, dot, begin, place)]
            name = names[dot - 1]
            found.append((middle, name, place) if self.grammar.has_part(name) else name)
            place = middle
        return found[::-1]
