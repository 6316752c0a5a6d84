"""Trees turned over their left corners, so that no rule begins with what stands in it.

Some rules are corners, Y = X c with a part X. A tree goes down corners, from a part A over
A = Y c, Y = X d, .. to a rule X = b that is none. Turned it begins with b: A = b T, where the
new part T of (A, X) has what stands behind the corners, from below: T = d U, U = c, with U of
(A, Y). One of (A, Y) may end where Y is A, and go on where some corner has Y in it.
"""

from paperreader.drafts import Draft, check_drafted
from paperreader.looking import led_from
from paperreader.stages import Stage


class Link:
    """A rule with what stands in it, but for what stands at its corner, which is the next link down."""

    def __init__(self, number, inner, beneath):
        self.number = number
        self.inner = inner
        self.beneath = beneath
        self.node = None


class Turning(Stage):
    """All corners turned; sources are (part A, rule, whether a new part stands behind it)."""

    def __init__(self, first, corners, names, parts):
        self.corners = corners
        self.names = names
        self.news = {}
        self.steps = {}
        for number in corners:
            part, behind = first.rules[number]
            self.steps.setdefault(part, []).append(behind[0])
        found = {}
        done = {}
        todo = list(parts)[::-1]
        while todo:
            part = todo.pop()
            if part not in done:
                done[part] = True
                for rule, source in self.turned(first, part):
                    found[rule] = [source]
                    todo.extend([name for name in rule[1] if first.has_part(name)])
                check_drafted(found)
        Stage.__init__(self, first, Draft(first.start, found))

    def turned(self, first, top):
        """The rules of a part, and of the new parts that stand behind its corners, each with its source."""
        reached = led_from(self.steps, [top])
        # From these parts, each at a corner, it is gone on up to the top.
        upward = {part: True for upper in reached for part in self.steps.get(upper, [])}
        found = []
        for part in sorted(reached):
            for number in first.rules_of(part):
                names = first.rules[number][1]
                head = top
                if number in self.corners:
                    head = self.new_part(top, names[0])
                    names = names[1:]
                if part == top:
                    found.append(((head, names), (top, number, False)))
                if part in upward:
                    found.append(((head, names + (self.new_part(top, part),)), (top, number, True)))
        return found

    def new_part(self, top, part):
        """The name of the new part that goes on from a part at a corner up to the top."""
        if (top, part) not in self.news:
            self.news[(top, part)] = self.names.fresh()
        return self.news[(top, part)]

    def there_at(self, out, number, inner):
        """A link, with that of its corner beneath."""
        if number in self.corners:
            return Link(number, self.values_of(out, inner[1:]), inner[0])
        return Link(number, self.values_of(out, inner), None)

    def values_of(self, out, inner):
        """The words, and the numbers of the nodes for links."""
        return tuple([found if isinstance(found, str) else self.top_of(out, found) for found in inner])

    def top_of(self, out, value):
        """The number of the node that comes of a link and all beneath, turned over."""
        if not isinstance(value, Link):
            return value
        if value.node is None:
            top = self.first.rules[value.number][0]
            behind = ()
            link = value
            while link is not None:
                source = (top, link.number, len(behind) > 0)
                behind = (out.put(self.draft.by_source[source], link.inner + behind),)
                link = link.beneath
            value.node = behind[0]
        return value.node

    def back_at(self, out, number, inner):
        """Of a new part a link, with the one behind it beneath; else the node under all the links behind it."""
        _, whole, is_long = self.draft.sources[number]
        behind = inner[-1] if is_long else None
        inner = inner[:-1] if is_long else inner
        if whole in self.corners:
            return Link(whole, inner, behind)
        value = out.put(whole, inner)
        while behind is not None:
            value = out.put(behind.number, (value,) + behind.inner)
            behind = behind.beneath
        return value
