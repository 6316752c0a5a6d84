"""The checker of tables: whether by one, whoever made it, just a grammar's texts are read."""

from paperreader.firstwords import FirstWords
from paperreader.tables import TOP_RULE


def holds(grammar, table):
    """Whether the table holds for the grammar."""
    if not all(has_rules_there(grammar, state[2]) for state in table.states):
        return False
    checker = Checker(grammar, table)
    if not checker.is_begun():
        return False
    return all(checker.is_right(at) for at in range(len(table.states)))


def has_rules_there(grammar, notes):
    """Whether the rule of each note is there, with as many names as are read of it."""
    for number, dot, _ in notes:
        if number >= len(grammar.rules) or (number != TOP_RULE and dot > grammar.length_of(number)):
            return False
    return True


class Checker:
    """The notes of each state, as they are asked for by the points of what holds."""

    def __init__(self, grammar, table):
        self.grammar = grammar
        self.table = table
        self.words = FirstWords(grammar)
        self.held = [{note: True for note in state[2]} for state in table.states]
        self.cores = [{(number, dot): True for number, dot, _ in state[2]} for state in table.states]

    def is_begun(self):
        """Whether state 0, and no other one, begins with the start."""
        if (TOP_RULE, 0, "") not in self.held[0] or any(dot > 0 for _, dot in self.cores[0]):
            return False
        return not any((TOP_RULE, 0) in cores for cores in self.cores[1:])

    def is_right(self, at):
        """Whether a state has what its notes ask for, and nothing that they don't."""
        if not all(self.has_gone_on(at, note) for note in self.held[at]) or not self.has_begun(at):
            return False
        if not all(self.is_called_for(at, word, deed) for word, deed in self.table.states[at][0]):
            return False
        return all(self.leads_right(at, name, further) for name, further in self.steps_from(at))

    def has_gone_on(self, at, note):
        """Whether a state has the deed or the go that a note calls for."""
        number, dot, word = note
        name = self.words.next_name(number, dot)
        deeds = self.table.deeds[at]
        if name is None:
            return deeds.get(word) == (("end",) if number == TOP_RULE else ("make", number))
        if self.grammar.has_part(name):
            further = self.table.goes[at].get(name)
        else:
            deed = deeds.get(name, ("none",))
            further = deed[1] if deed[0] == "shift" else None
        return further is not None and (number, dot + 1, word) in self.held[further]

    def has_begun(self, at):
        """Whether a state has the rules of each part that is next, with all words that may come behind it."""
        asked = self.asked_in(at)
        for part in asked:
            for number in self.grammar.rules_of(part):
                if not all((number, 0, word) in self.held[at] for word in asked[part]):
                    return False
        return True

    def asked_in(self, at):
        """For each part that is next in notes of a state the words that may come behind it."""
        asked = {}
        for number, dot in self.cores[at]:
            name = self.words.next_name(number, dot)
            if self.grammar.has_part(name):
                mask, _ = self.words.behind(number, dot + 1)
                asked.setdefault(name, {}).update({word: True for word in self.words.signs_in(mask)})
        for number, dot, word in self.held[at]:
            name = self.words.next_name(number, dot)
            if self.grammar.has_part(name) and self.words.behind(number, dot + 1)[1]:
                asked[name][word] = True
        return asked

    def is_called_for(self, at, word, deed):
        """Whether a deed may stand at a word; of a shift whether the word is one."""
        if deed[0] == "shift":
            return not self.grammar.has_part(word)
        if deed[0] == "end":
            return word == "" and (TOP_RULE, 1, "") in self.held[at]
        if deed[1] >= len(self.grammar.rules):
            return False
        return (deed[1], self.grammar.length_of(deed[1]), word) in self.held[at]

    def steps_from(self, at):
        """The pairs of a name and the state to which it leads, by shifts and goes."""
        shifts = [(word, deed[1]) for word, deed in self.table.states[at][0] if deed[0] == "shift"]
        return shifts + list(self.table.states[at][1])

    def leads_right(self, at, name, further):
        """Whether all that is half read in a state was half read ahead of this name."""
        if further == 0:
            return False
        for number, dot in self.cores[further]:
            if dot > 0 and (self.words.names_of(number)[dot - 1] != name or (number, dot - 1) not in self.cores[at]):
                return False
        return True
