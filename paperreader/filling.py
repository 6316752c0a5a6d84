"""Empty parts left out of the rules in which they stand."""

from heapq import heappop, heappush

from paperreader.drafts import Draft, without_bare
from paperreader.firstrows import uses_of_parts
from paperreader.stages import Stage


class Filling(Stage):
    """Rules with empty parts left out; sources are (rule, the places of the names that are kept)."""

    def __init__(self, first):
        self.hollow = hollow_trees(first)
        found = {}
        for number, (part, names) in enumerate(first.rules):
            for kept in kept_places(names, self.hollow):
                size = sum([self.hollow[name][0] for at, name in enumerate(names) if at not in kept])
                found.setdefault((part, tuple([names[at] for at in kept])), []).append((size, number, kept))
        found = {rule: [source[1:] for source in sorted(found[rule])] for rule in found if rule[1]}
        Stage.__init__(self, first, Draft(first.start, without_bare(first, found)))
        self.needs_words = True

    def there_at(self, out, number, inner):
        """The node without those of nothing; None where nothing is left."""
        kept = tuple([at for at, value in enumerate(inner) if value is not None])
        if not kept:
            return None
        return out.put(self.draft.by_source[(number, kept)], tuple([inner[at] for at in kept]))

    def back_at(self, out, number, inner):
        """The node with the least trees of nothing of the parts that were left out."""
        whole, kept = self.draft.sources[number]
        values = {at: value for at, value in zip(kept, inner)}
        told = []
        for at, name in enumerate(self.first.rules[whole][1]):
            told.append(values[at] if at in values else self.hollow_in(out, name))
        return out.put(whole, tuple(told))

    def hollow_in(self, out, part):
        """The number of the node of the part's least tree of nothing."""
        if not out.marks:
            for name in self.hollow:
                number = self.hollow[name][1]
                out.marks[name] = out.put(number, tuple([out.marks[lower] for lower in self.first.rules[number][1]]))
        return out.marks[part]


def hollow_trees(grammar):
    """For each empty part how many rules its least tree of nothing has, and the first of them.

    Each part stands behind those in its tree.
    """
    uses = uses_of_parts(grammar)
    found = {}
    queue = [(1, number) for number, rule in enumerate(grammar.rules) if not rule[1]]
    numbers = {rule: number for number, rule in enumerate(grammar.rules)}
    while queue:
        size, number = heappop(queue)
        part = grammar.rules[number][0]
        if part not in found:
            found[part] = (size, number)
            for rule in uses.get(part, []):
                if rule[0] not in found and all(name in found for name in rule[1]):
                    heappush(queue, (1 + sum([found[name][0] for name in rule[1]]), numbers[rule]))
    return found


def kept_places(names, hollow):
    """The places of the names, in all ways to leave out some of the hollow ones."""
    found = [()]
    for at, name in enumerate(names):
        kept = [places + (at,) for places in found]
        found = kept + found if name in hollow else kept
    return found
