"""The trees of a row in their order: by how many rules they have, then by their steps.

A tree's steps are made up from the left. A beginning of steps stands in the queue by the
fewest rules of any tree that goes on from it, then by itself: so what comes off the queue
is always a beginning of the next tree, or is that tree.
"""

from heapq import heappop, heappush

from paperreader.bounds import check_told
from paperreader.trees import tree_along

CHUNK = 64


class InOrder:
    """The trees of a row, told one behind the other; there must be one."""

    def __init__(self, forest, fewest, row):
        self.grammar = forest.grammar
        self.row = row
        self.least = fewest.counts[0]
        self.checked = 0
        self.reads = {}
        self.openings = {}
        self.note_reads(forest, fewest)
        end = ("", {len(row): 0}, None)
        start = self.piled((self.grammar.start,), end)
        self.queue = [(self.least, ((),), 0, 0, start)]

    def note_reads(self, forest, fewest):
        """Note where each part is read, and by which rules it is read from a place."""
        for node, mark in enumerate(forest.marks):
            if forest.is_part(node):
                part, begin, end = mark
                self.reads.setdefault(part, []).append((begin, end, fewest.counts[node]))
                numbers = self.openings.setdefault((part, begin), {})
                for choice in forest.choices[node]:
                    numbers[forest.marks[choice[0]][0]] = True

    def piled(self, names, pile):
        """The pile with these names put on it, the first one on top.

        A pile is a name, how many rules all on it have at least from each place to the
        row's end, and the pile beneath.
        """
        for name in names[::-1]:
            pile = (name, self.fewest_from(name, pile[1]), pile)
        return pile

    def fewest_from(self, name, behind):
        """From each place the fewest rules of the name and of what stands behind it."""
        found = {}
        if self.grammar.has_part(name):
            for begin, end, count in self.reads.get(name, []):
                if end in behind and (begin not in found or count + behind[end] < found[begin]):
                    found[begin] = count + behind[end]
        else:
            for place, word in enumerate(self.row):
                if word == name and place + 1 in behind:
                    found[place] = behind[place + 1]
        return found

    def next_tree(self):
        """The next tree, or None where there are no more."""
        while self.queue:
            least, steps, many, place, pile = heappop(self.queue)
            if least > self.checked:
                check_told(self.grammar, self.least, least)
                self.checked = least
            while self.is_word_next(pile):
                place += 1
                pile = pile[2]
            if pile[2] is None:
                return tree_along(self.grammar, flat(steps))
            self.go_on(steps, many, place, pile)
        return None

    def is_word_next(self, pile):
        """Whether a word lies on top of the pile."""
        return pile[2] is not None and not self.grammar.has_part(pile[0])

    def go_on(self, steps, many, place, pile):
        """Queue what comes of the beginning by each rule of the part on top of the pile."""
        for number in sorted(self.openings.get((pile[0], place), {})):
            longer = self.piled(self.grammar.rules[number][1], pile[2])
            if place in longer[1]:
                least = many + 1 + longer[1][place]
                heappush(self.queue, (least, lengthened(steps, number), many + 1, place, longer))


def lengthened(steps, number):
    """Chunks of steps with one more step; they are ordered as the steps in a row would be.

    All chunks but the last are full: a long beginning is not copied step by step.
    """
    last = steps[-1]
    if len(last) == CHUNK:
        return steps + ((number,),)
    return steps[:-1] + (last + (number,),)


def flat(steps):
    """The steps of all chunks in one tuple."""
    return tuple([number for chunk in steps for number in chunk])
