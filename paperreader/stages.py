"""Stages of changes: from each rule of a grammar to those of the next one, and the nodes of trees with them.

A stage has the draft of its second grammar. `there_at` and `back_at` carry one node whose inner
ones are carried already: each puts what comes of it into a pool and tells a value for it, most
often the new node's number; `top_of` tells the number for the value of the whole tree. A stage
that needs words carries no tree of the row of nothing there.
"""

from paperreader.drafts import Draft, check_drafted
from paperreader.looking import live_rules


class Stage:
    """What all stages have."""

    def __init__(self, first, draft):
        self.first = first
        self.draft = draft
        self.needs_words = False

    def top_of(self, out, value):
        """The number of the top node, from what was told for it."""
        return value


class Trimming(Stage):
    """Just the rules that trees of the start can have; sources are rules."""

    def __init__(self, first):
        numbers = {rule: number for number, rule in enumerate(first.rules)}
        Stage.__init__(self, first, Draft(first.start, {rule: [numbers[rule]] for rule in live_rules(first)}))

    def there_at(self, out, number, inner):
        """The same by the second grammar's rule."""
        return out.put(self.draft.by_source[number], inner)

    def back_at(self, out, number, inner):
        """The same by the first grammar's rule."""
        return out.put(self.draft.sources[number], inner)


class Parting(Stage):
    """Rules of more than so many names parted by new parts; sources are (rule, which piece of it)."""

    def __init__(self, first, names, most):
        self.most = most
        found = {}
        for number, (part, behind) in enumerate(first.rules):
            last = self.last_piece(behind)
            for at in range(last):
                lower = names.fresh()
                found[(part, self.piece(behind, at) + (lower,))] = [(number, at)]
                part = lower
            found[(part, self.piece(behind, last))] = [(number, last)]
        Stage.__init__(self, first, Draft(first.start, found))

    def last_piece(self, names):
        """The number of the last piece of a rule with these names."""
        return max(len(names) - 2, 0) // (self.most - 1)

    def piece(self, names, at):
        """What of the names stands in a piece; each but the last one has one name less than a rule may have."""
        begin = at * (self.most - 1)
        return names[begin:] if at == self.last_piece(names) else names[begin:begin + self.most - 1]

    def there_at(self, out, number, inner):
        """The pieces, the last one first."""
        behind = ()
        for at in range(self.last_piece(inner), -1, -1):
            behind = (out.put(self.draft.by_source[(number, at)], self.piece(inner, at) + behind),)
        return behind[0]

    def back_at(self, out, number, inner):
        """The first piece with what stands in all of them; of another piece what stands in it and behind."""
        whole, at = self.draft.sources[number]
        if at < self.last_piece(self.first.rules[whole][1]):
            inner = inner[:-1] + inner[-1]
        return inner if at > 0 else out.put(whole, inner)


class Unfolding(Stage):
    """Rules that give way, at a place in each, to the rules of the part there; sources are (rule, rule there or -1)."""

    def __init__(self, first, places):
        self.places = places
        found = {}
        for number, (part, names) in enumerate(first.rules):
            if number not in places:
                found.setdefault((part, names), []).append((number, -1))
            else:
                at = places[number]
                for opened in first.rules_of(names[at]):
                    rule = (part, names[:at] + first.rules[opened][1] + names[at + 1:])
                    found.setdefault(rule, []).append((number, opened))
            check_drafted(found)
        Stage.__init__(self, first, Draft(first.start, found))

    def there_at(self, out, number, inner):
        """The node with what stands in the one at its place."""
        if number not in self.places:
            return out.put(self.draft.by_source[(number, -1)], inner)
        at = self.places[number]
        lower, within = out.nodes[inner[at]]
        opened = self.draft.sources[lower][0]
        return out.put(self.draft.by_source[(number, opened)], inner[:at] + within + inner[at + 1:])

    def back_at(self, out, number, inner):
        """The node, and the one at its place."""
        whole, opened = self.draft.sources[number]
        if opened == -1:
            return out.put(whole, inner)
        at = self.places[whole]
        end = at + len(self.first.rules[opened][1])
        return out.put(whole, inner[:at] + (out.put(opened, inner[at:end]),) + inner[end:])
