"""The states of the full table, their notes folded up.

A state's notes are told by a dict: for each (rule, dot), its core, the words noted with it as
bits of a number (firstwords.py). So are the notes of states that are put together.
"""

from paperreader.errors import TooMany
from paperreader.firstwords import FirstWords
from paperreader.tables import MOST_STATES, TOP_RULE, Table


class State:
    """The notes of a state, the states to which names lead from it, and whence it is first come to."""

    def __init__(self, masks, origin):
        self.masks = masks
        self.steps = {}
        self.origin = origin


class States:
    """The states of a grammar's full table, whether it clashes or not."""

    def __init__(self, grammar):
        self.grammar = grammar
        self.words = FirstWords(grammar)
        self.states = []
        self.numbers = {}
        self.number_of({(TOP_RULE, 0): self.words.bits[""]}, None)
        at = 0
        while at < len(self.states):
            self.lead_on(at)
            at += 1

    def number_of(self, masks, origin):
        """The number of the state of such notes and all that they ask for, a new one where there was none."""
        key = tuple(sorted(masks.items()))
        if key not in self.numbers:
            if len(self.states) == MOST_STATES:
                raise TooMany("a table has at most 600 states")
            self.numbers[key] = len(self.states)
            self.states.append(State(self.closed(masks), origin))
        return self.numbers[key]

    def closed(self, masks):
        """The notes and all that they ask for."""
        found = {core: masks[core] for core in masks}
        asked = {}
        todo = list(masks)
        while todo:
            number, dot = todo.pop()
            name = self.words.next_name(number, dot)
            if self.grammar.has_part(name):
                mask, is_empty = self.words.behind(number, dot + 1)
                if is_empty:
                    mask = mask | found[(number, dot)]
                longer = mask | asked.get(name, 0)
                if longer != asked.get(name, 0):
                    asked[name] = longer
                    for opened in self.grammar.rules_of(name):
                        found[(opened, 0)] = longer
                        todo.append((opened, 0))
        return found

    def lead_on(self, at):
        """Find the states to which names lead from a state."""
        state = self.states[at]
        led = {}
        for number, dot in state.masks:
            name = self.words.next_name(number, dot)
            if name is not None:
                led.setdefault(name, {})[(number, dot + 1)] = state.masks[(number, dot)]
        for name in sorted(led):
            state.steps[name] = self.number_of(led[name], (at, name))

    def path_to(self, at):
        """The names along which a state is first come to."""
        names = []
        while self.states[at].origin is not None:
            at, name = self.states[at].origin
            names.append(name)
        return tuple(names[::-1])

    def clashes(self, masks):
        """The bits of the words at which notes call for two deeds."""
        taken = 0
        both = 0
        for number, dot in masks:
            name = self.words.next_name(number, dot)
            if name is not None and not self.grammar.has_part(name):
                taken = taken | self.words.bits[name]
        for number, dot in masks:
            if self.words.next_name(number, dot) is None:
                both = both | (taken & masks[(number, dot)])
                taken = taken | masks[(number, dot)]
        return both

    def table_of(self, told):
        """The table of states that are told by their notes and steps, none of them with a clash."""
        notes = {}
        return Table([self.state_of(masks, steps, notes) for masks, steps in told])

    def state_of(self, masks, steps, notes):
        """The triple of a state; notes has those of all states, so that like ones are kept once."""
        deeds = {name: ("shift", steps[name]) for name in steps if not self.grammar.has_part(name)}
        found = []
        for number, dot in sorted(masks):
            for word in self.words.signs_in(masks[(number, dot)]):
                note = (number, dot, word)
                found.append(notes.setdefault(note, note))
                if self.words.next_name(number, dot) is None:
                    deeds[word] = ("end",) if number == TOP_RULE else ("make", number)
        goes = [(name, steps[name]) for name in sorted(steps) if self.grammar.has_part(name)]
        return (tuple(sorted(deeds.items())), tuple(goes), tuple(found))
