"""The short table: the full one, with states put together that have the same rules half read."""

from paperreader.errors import NoTable
from paperreader.states import States


def short_table(grammar):
    """The short table of a grammar; NoTable where the full one clashes."""
    states = States(grammar)
    if any(states.clashes(state.masks) > 0 for state in states.states):
        raise NoTable("the full table clashes")
    groups = Groups(states)
    for at in range(1, len(states.states)):
        groups.settle(at)
    return states.table_of(groups.told())


class Groups:
    """The states that are put together; each group goes by the first of its states, its leader."""

    def __init__(self, states):
        self.states = states
        self.leaders = {}
        self.masks = {at: state.masks for at, state in enumerate(states.states)}
        self.settled = {}

    def leader_of(self, at, leaders):
        """The leader of a state's group, where these have newly given way to other ones."""
        while at in leaders or at in self.leaders:
            at = leaders[at] if at in leaders else self.leaders[at]
        return at

    def settle(self, at):
        """Put a state together with the first one ahead with which it can be."""
        ahead = self.settled.setdefault(tuple(sorted(self.masks[at])), [])
        # A group that can't take the state can't either for another one of its states.
        for leader in sorted(set([self.leader_of(other, {}) for other in ahead])):
            if self.has_joined(leader, at):
                break
        ahead.append(at)

    def has_joined(self, one, other):
        """Put two states together, and all that this calls for; False, and nothing done, where there is a clash."""
        leaders = {}
        masks = {}
        todo = [(one, other)]
        while todo:
            pair = todo.pop()
            first, second = sorted([self.leader_of(at, leaders) for at in pair])
            if first != second:
                leaders[second] = first
                masks[first] = joined(masks.get(first, self.masks[first]), masks.get(second, self.masks[second]))
                if self.states.clashes(masks[first]) > 0:
                    return False
                todo.extend(self.led_from_both(first, second))
        self.leaders.update(leaders)
        self.masks.update(masks)
        return True

    def led_from_both(self, first, second):
        """The pairs of states to which one name leads from two that have the same rules half read."""
        steps = self.states.states[first].steps
        others = self.states.states[second].steps
        return [(steps[name], others[name]) for name in steps]

    def told(self):
        """For each group its notes and its steps, numbered as they are come to."""
        numbers = {0: 0}
        order = [0]
        out = []
        while len(out) < len(order):
            leader = order[len(out)]
            steps = {}
            for name, further in sorted(self.states.states[leader].steps.items()):
                reached = self.leader_of(further, {})
                if reached not in numbers:
                    numbers[reached] = len(order)
                    order.append(reached)
                steps[name] = numbers[reached]
            out.append((self.masks[leader], steps))
        return out


def joined(one, other):
    """The notes of two states that have the same rules half read."""
    return {core: one[core] | other[core] for core in one}
