"""The rest of a beginning: the first row with which it is a text.

What is still to come behind a row is a way through places (part, begin): from a rule half
read at the row's end, over what is left of it, to its part; from there, over what is left
behind that part in a rule that waits for it, to that rule's part; and so on to the start.
"""

from heapq import heappop, heappush

from paperreader.bounds import MOST_TOLD, has_small_firsts
from paperreader.errors import TooMany
from paperreader.firstrows import first_rows, row_over


class Rests:
    """The ways from the rules half read in the last of a row's columns to the start read whole."""

    def __init__(self, grammar, columns):
        self.grammar = grammar
        self.columns = columns
        self.rows = first_rows(grammar, MOST_TOLD)
        self.tails = {}
        self.ways = {}
        self.end = (grammar.start, 0)
        self.top = [self.way_along(number, dot, begin) for number, dot, begin in columns[-1].held]
        self.top = [way for way in self.top if way is not None]
        self.note_ways()
        self.costs = self.costs_to_end()

    def way_along(self, number, dot, begin):
        """The way over the names of a rule behind the dot, or None where their first row is too long."""
        tail = (number, dot)
        if tail not in self.tails:
            names = self.grammar.rules[number][1][dot:]
            is_short = all(name in self.rows for name in names)
            self.tails[tail] = row_over(self.rows, names) if is_short else None
        if self.tails[tail] is None:
            return None
        return (tail, (self.grammar.rules[number][0], begin))

    def note_ways(self):
        """Note the ways from each place to which ways lead."""
        todo = [place for _, place in self.top]
        while todo:
            place = todo.pop()
            if place not in self.ways:
                self.ways[place] = self.ways_from(place)
                todo.extend([further for _, further in self.ways[place]])

    def ways_from(self, place):
        """The ways over what is left in the rules that wait for a part."""
        part, begin = place
        waiting = self.columns[begin].waiting.get(part, [])
        ways = [self.way_along(number, dot + 1, upper) for number, dot, upper in waiting]
        return [way for way in ways if way is not None]

    def costs_to_end(self):
        """From each place the fewest words to the end."""
        backward = {}
        for place in self.ways:
            for tail, further in self.ways[place]:
                backward.setdefault(further, []).append((len(self.tails[tail]), place))
        costs = {}
        queue = [(0, self.end)]
        while queue:
            cost, place = heappop(queue)
            if place not in costs:
                costs[place] = cost
                for length, nearer in backward.get(place, []):
                    heappush(queue, (cost + length, nearer))
        return costs

    def cost_of(self, way):
        """The fewest words to the end by this way; None where they are too many."""
        tail, place = way
        if place not in self.costs:
            return None
        return len(self.tails[tail]) + self.costs[place]

    def best_of(self, ways):
        """The ways that have the fewest words to the end, as a dict of points at which one stands."""
        costs = [self.cost_of(way) for way in ways]
        least = min([cost for cost in costs if cost is not None])
        return {(way[0], 0, way[1]): True for way, cost in zip(ways, costs) if cost == least}

    def first_rest(self):
        """The first row of all; TooMany where it is too long to be told."""
        costs = [self.cost_of(way) for way in self.top]
        costs = [cost for cost in costs if cost is not None]
        if not costs or (min(costs) > MOST_TOLD and not has_small_firsts(self.grammar)):
            raise TooMany("a row of more words than are told")
        return self.walked(min(costs))

    def walked(self, length):
        """The first of all rows of the fewest words, word by word along all ways that have them."""
        row = []
        points = self.best_of(self.top)
        while len(row) < length:
            points = self.spread(points)
            if len(points) == 1:
                tail, at, place = list(points)[0]
                row.extend(self.tails[tail][at:])
                points = {(tail, len(self.tails[tail]), place): True}
            else:
                word = min([self.tails[tail][at] for tail, at, _ in points])
                row.append(word)
                points = {(tail, at + 1, place): True for tail, at, place in points if self.tails[tail][at] == word}
        return tuple(row)

    def spread(self, points):
        """The points at a word to which these lead without one."""
        found = {}
        seen = {}
        todo = list(points)
        while todo:
            point = todo.pop()
            tail, at, place = point
            if at < len(self.tails[tail]):
                found[point] = True
            elif place not in seen:
                seen[place] = True
                todo.extend(list(self.best_of(self.ways[place])))
        return found
