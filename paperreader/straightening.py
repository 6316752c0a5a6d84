"""Rules of one part alone left out: each part has the rules to which they lead."""

from paperreader.drafts import Draft, without_bare
from paperreader.errors import TooMany
from paperreader.stages import Stage

MOST_STRAIGHT = 100000


class Straightening(Stage):
    """Each part with the rules of all parts to which it gives way alone; sources are rules.

    `uppers` tells for each part, and each other one to which it so gives way, the last rule on the
    nearest way there.
    """

    def __init__(self, first):
        self.uppers = {}
        found = {}
        for part in first.parts:
            for lower in self.led_to(first, part):
                for number in first.rules_of(lower):
                    if not is_alone(first, number):
                        found.setdefault((part, first.rules[number][1]), []).append(number)
            if len(found) > MOST_STRAIGHT:
                raise TooMany("more rules than a grammar has")
        Stage.__init__(self, first, Draft(first.start, without_bare(first, found)))

    def led_to(self, first, top):
        """The part, and those to which it gives way alone, the nearest first."""
        uppers = {}
        parts = [top]
        at = 0
        while at < len(parts):
            for number in first.rules_of(parts[at]):
                if is_alone(first, number):
                    lower = first.rules[number][1][0]
                    if lower != top and lower not in uppers:
                        uppers[lower] = number
                        parts.append(lower)
            at += 1
        self.uppers[top] = uppers
        return parts

    def there_at(self, out, number, inner):
        """The node with what stands in the one to which its part gives way."""
        part, names = self.first.rules[number]
        if is_alone(self.first, number):
            lower, inner = out.nodes[inner[0]]
            names = self.draft.rules[lower][1]
        return out.put(self.draft.by_rule[(part, names)], inner)

    def back_at(self, out, number, inner):
        """The node under all on the nearest way to its rule."""
        part = self.draft.rules[number][0]
        whole = self.draft.sources[number]
        value = out.put(whole, inner)
        while self.first.rules[whole][0] != part:
            whole = self.uppers[part][self.first.rules[whole][0]]
            value = out.put(whole, (value,))
        return value


def is_alone(grammar, number):
    """Whether a rule is of one part alone."""
    names = grammar.rules[number][1]
    return len(names) == 1 and grammar.has_part(names[0])
