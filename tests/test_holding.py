"""The checker of tables, [7.3], and what it lets by, [0.2] (d)."""

import unittest

from paperreader.errors import NoTable, TooMany
from paperreader.full import full_table
from paperreader.grammars import Grammar
from paperreader.holding import holds
from paperreader.readers import run
from paperreader.tables import Table
from tests.looks import chain_rules, chances, grammar_of, is_tree_of, name_of, random_grammar, words_in
from tests.tablelooks import holds_by_look
from tests.textlooks import all_rows, texts_up_to

GRAMMAR = grammar_of("s=a t b;s=c;t=t d;t=")


def changed(table, at, place, told):
    """The table with other deeds (0), goes (1) or notes (2) in one state."""
    states = list(table.states)
    states[at] = states[at][:place] + (tuple(sorted(told)),) + states[at][place + 1:]
    return Table(states)


def state_with(table, note):
    """The number of the first state that has a note."""
    return [at for at, state in enumerate(table.states) if note in state[2]][0]


def with_a_second_top(table):
    """The table with its state 0 once more as state 1, to which nothing leads."""
    states = []
    for deeds, goes, notes in table.states:
        deeds = tuple((word, (deed[0], deed[1] + 1) if deed[0] == "shift" else deed) for word, deed in deeds)
        states.append((deeds, tuple((part, number + 1) for part, number in goes), notes))
    return Table(states[:1] + states)


def mutated(chance, grammar, table):
    """The table with one deed, go or note less, more or otherwise; None where that is no table."""
    states = list(table.states)
    at = chance.randrange(len(states))
    place = chance.randrange(3)
    told = list(states[at][place])
    deed = chance.randrange(3)
    if deed < 2 and told:
        told.pop(chance.randrange(len(told)))
    if deed > 0:
        told.append(random_entry(chance, grammar, place, len(states)))
    try:
        return changed(table, at, place, told)
    except NoTable:
        return None


def random_entry(chance, grammar, place, many):
    name = chance.choice(grammar.words + grammar.parts + ("", "z"))
    number = chance.randrange(len(grammar.rules) + 1)
    if place == 0:
        return (name, chance.choice([("shift", chance.randrange(many)), ("make", number), ("end",)]))
    if place == 1:
        return (name, chance.randrange(many))
    return (chance.choice([-1, number]), chance.randrange(4), name)


class Holds(unittest.TestCase):
    def test_full_tables(self):
        many = 0
        for chance in chances(300, "full tables hold"):
            grammar = random_grammar(chance, parts=chance.randint(1, 4), words=chance.randint(1, 3), most_rules=8)
            told = full_table(grammar)
            if told[0] == "table":
                many += 1
                self.assertIs(holds(grammar, told[1]), True)
        self.assertTrue(many > 100)

    def test_held_against_the_points(self):
        let_by = [0, 0]
        for chance in chances(400, "points"):
            grammar = random_grammar(chance, parts=3, words=2, most_rules=5)
            told = full_table(grammar)
            if told[0] == "clash":
                continue
            for _ in range(12):
                table = mutated(chance, grammar, told[1])
                if table is not None:
                    look = holds_by_look(grammar, table.states)
                    let_by[look] += 1
                    self.assertIs(holds(grammar, table), look)
                    if look and table.states != told[1].states:
                        self.reads_the_texts(grammar, table)
        self.assertTrue(let_by[0] > 1000 and let_by[1] > 50, let_by)

    def reads_the_texts(self, grammar, table):
        """By a table that holds just the texts are read, each to a tree of it."""
        texts = texts_up_to(grammar, 3)
        for row in all_rows(grammar.words, 3):
            kind, *told = run(grammar, table, row)
            self.assertEqual(kind == "tree", row in texts)
            if kind == "tree":
                self.assertTrue(is_tree_of(grammar, grammar.start, told[0]))
                self.assertEqual(words_in(told[0]), row)

    def test_of_another_grammar(self):
        table = full_table(GRAMMAR)[1]
        self.assertIs(holds(grammar_of("s=a t b;s=c;t=t d;t="), table), True)
        for text in ("s=a t b;s=c;t=t d", "s=a t b;s=c;t=t d;t=;t=e", "s=c;s=a t b;t=t d;t=", "s=a t b;s=d;t=t d;t=",
                     "t=a t b;t=c;s=s d;s=", "s=c"):
            self.assertIs(holds(grammar_of(text), table), False)

    def test_a_large_one(self):
        grammar = Grammar(chain_rules(300))
        self.assertIs(holds(grammar, full_table(grammar)[1]), True)


class EachPoint(unittest.TestCase):
    """For each point a table that breaks just that one."""

    def setUp(self):
        self.table = full_table(GRAMMAR)[1]
        self.assertIs(holds(GRAMMAR, self.table), True)

    def breaks(self, table, grammar=GRAMMAR):
        self.assertIs(holds(grammar, table), False)
        self.assertFalse(holds_by_look(grammar, table.states))

    def with_note(self, at, note):
        return changed(self.table, at, 2, self.table.states[at][2] + (note,))

    def test_rules_of_notes_are_there(self):
        for note in ((4, 0, ""), (299, 0, "a"), (1, 2, ""), (3, 1, "b"), (0, 8, "")):
            for at in range(len(self.table.states)):
                self.breaks(self.with_note(at, note))

    def test_state_0_begins(self):
        notes = self.table.states[0][2]
        self.breaks(changed(self.table, 0, 2, [note for note in notes if note[0] != -1]))
        self.breaks(Table([((), (), ())]))
        # A rule is read whole in state 0, and what that calls for is there.
        grammar = grammar_of("s=a b;s=b")
        table = full_table(grammar)[1]
        broken = changed(table, 0, 2, table.states[0][2] + ((1, 1, ""),))
        self.breaks(changed(broken, 0, 0, table.states[0][0] + (("", ("make", 1)),)), grammar)

    def test_no_other_state_begins(self):
        table = self.table
        self.breaks(Table(list(table.states) + [table.states[0]]))
        self.breaks(with_a_second_top(table))
        self.assertIs(holds(GRAMMAR, Table(list(table.states) + [((), (), ())])), True)

    def test_notes_ask_for_rules_with_each_word(self):
        at = state_with(self.table, (0, 1, ""))
        for note in ((2, 0, "b"), (2, 0, "d"), (3, 0, "b"), (3, 0, "d")):
            self.assertIn(note, self.table.states[at][2])
            self.breaks(changed(self.table, at, 2, [told for told in self.table.states[at][2] if told != note]))

    def test_the_word_of_the_note_itself(self):
        grammar = grammar_of("s=t u;t=a;u=b;u=")
        table = full_table(grammar)[1]
        for note in ((2, 0, "b"), (2, 0, "")):
            self.assertNotIn(note, table.states[0][2])
        for note in ((1, 0, "b"), (1, 0, "")):
            self.assertIn(note, table.states[0][2])
            self.breaks(changed(table, 0, 2, [told for told in table.states[0][2] if told != note]), grammar)
        at = state_with(table, (2, 0, ""))
        self.breaks(changed(table, at, 2, [told for told in table.states[at][2] if told != (2, 0, "")]), grammar)

    def test_behind_what_is_not_fruitful_comes_nothing(self):
        grammar = grammar_of("s=t x;t=a;x=x b;s=c")
        table = full_table(grammar)[1]
        self.assertEqual(table.states[0][2], ((-1, 0, ""), (0, 0, ""), (3, 0, "")))
        self.assertIs(holds(grammar, table), True)

    def test_goes(self):
        at = state_with(self.table, (0, 1, ""))
        further = dict(self.table.states[at][1])["t"]
        self.breaks(changed(self.table, at, 1, []))
        for other in range(len(self.table.states)):
            if other != further:
                self.breaks(changed(self.table, at, 1, [("t", other)]))
        self.breaks(changed(self.table, further, 2, [
            note for note in self.table.states[further][2] if note != (0, 2, "")
        ]))

    def test_shifts(self):
        for at, state in enumerate(self.table.states):
            for word, deed in state[0]:
                others = [pair for pair in state[0] if pair[0] != word]
                self.breaks(changed(self.table, at, 0, others))
                for other in range(len(self.table.states)):
                    if deed != ("shift", other) and word != "":
                        self.breaks(changed(self.table, at, 0, others + [(word, ("shift", other))]))

    def test_makes_and_ends_where_they_are_called_for(self):
        for at, state in enumerate(self.table.states):
            for word, deed in state[0]:
                others = [pair for pair in state[0] if pair[0] != word]
                for other in [("end",)] + [("make", number) for number in range(5)]:
                    if other != deed:
                        self.breaks(changed(self.table, at, 0, others + [(word, other)]))

    def test_makes_and_ends_where_they_are_not_called_for(self):
        for at, state in enumerate(self.table.states):
            for word in ("", "a", "b", "c", "d", "s", "z"):
                if word not in dict(state[0]):
                    for other in [("end",)] + [("make", number) for number in range(5)]:
                        self.breaks(changed(self.table, at, 0, state[0] + ((word, other),)))

    def test_an_end_at_a_word(self):
        at = state_with(self.table, (-1, 1, ""))
        self.breaks(changed(self.table, at, 0, [("", ("end",)), ("a", ("end",))]))

    def test_shifts_at_words_that_are_no_parts(self):
        free = Table(list(self.table.states) + [((), (), ())])
        last = len(free.states) - 1
        at = state_with(free, (0, 1, ""))
        self.breaks(changed(free, at, 0, free.states[at][0] + (("t", ("shift", last)),)))
        self.breaks(changed(free, at, 0, free.states[at][0] + (("s", ("shift", last)),)))
        self.assertIs(holds(GRAMMAR, changed(free, at, 0, free.states[at][0] + (("z", ("shift", last)),))), True)
        self.assertIs(holds(GRAMMAR, changed(free, at, 1, free.states[at][1] + (("z", last),))), True)

    def test_nothing_leads_to_state_0(self):
        last = state_with(self.table, (1, 1, ""))
        self.breaks(changed(self.table, last, 0, self.table.states[last][0] + (("z", ("shift", 0)),)))
        self.breaks(changed(self.table, last, 1, [("z", 0)]))
        self.breaks(changed(self.table, 0, 1, self.table.states[0][1] + (("z", 0),)))

    def test_the_name_is_the_last_one_read(self):
        last = state_with(self.table, (1, 1, ""))
        self.breaks(changed(self.table, last, 1, [("t", last)]))
        self.breaks(changed(self.table, 0, 1, self.table.states[0][1] + (("t", last),)))
        self.breaks(changed(self.table, 0, 0, self.table.states[0][0] + (("z", ("shift", last)),)))
        # The state led to may be the very one from which it is led.
        self.breaks(changed(self.table, last, 0, self.table.states[last][0] + (("d", ("shift", last)),)))

    def test_the_first_state_has_it_one_name_shorter(self):
        at = state_with(self.table, (0, 1, ""))
        done = state_with(self.table, (1, 1, ""))
        self.breaks(changed(self.table, at, 0, self.table.states[at][0] + (("c", ("shift", done)),)))
        # With any word: that of the note needn't be the same.
        grammar = grammar_of("s=a t;s=b t c;t=d;t=d d")
        table = full_table(grammar)[1]
        here, there = state_with(table, (0, 1, "")), state_with(table, (1, 1, ""))
        further = dict(table.states[there][0])["d"]
        self.assertNotEqual(dict(table.states[here][0])["d"], ("shift", further))
        self.breaks(changed(table, here, 0, [("d", further)]), grammar)

    def test_a_state_to_which_nothing_leads(self):
        grammar = grammar_of("s=a s;s=b")
        table = full_table(grammar)[1]
        self.assertIs(holds(grammar, table), True)
        # It has notes of its own, with a word that comes nowhere: it is held to them all the same.
        more = ((("b", ("shift", len(table.states) + 1)),), (), ((1, 0, "z"),))
        done = ((("z", ("make", 1)),), (), ((1, 1, "z"),))
        self.assertIs(holds(grammar, Table(list(table.states) + [more, done])), True)
        self.breaks(Table(list(table.states) + [more, done[:2] + (((1, 1, "a"),),)]), grammar)
        self.breaks(Table(list(table.states) + [((), (), ((1, 0, "z"),))]), grammar)


class ByNotes(unittest.TestCase):
    def test_words_that_the_grammar_has_not(self):
        # Notes of any word are held to the points, also with names of parts as words.
        grammar = grammar_of("s=t;t=a")
        table = full_table(grammar)[1]
        states = list(table.states)
        at = len(states)
        states += [
            ((("a", ("shift", at + 1)),), (("t", at + 2),), ((0, 0, "t"), (1, 0, "t"))),
            ((("t", ("make", 1)),), (), ((1, 1, "t"),)),
            ((("t", ("make", 0)),), (), ((0, 1, "t"),)),
        ]
        self.assertIs(holds(grammar, Table(states)), True)
        states[at] = states[at][:2] + (((0, 0, "t"), (1, 0, "z")),)
        self.assertIs(holds(grammar, Table(states)), False)

    def test_too_many_makes_are_no_fault_of_a_table(self):
        grammar = grammar_of("s=e s;s=a;e=")
        self.assertEqual(full_table(grammar)[0], "clash")
        # A ring has a clash; where none is made, the makes between two words are bounded.
        grammar = Grammar([("s", ("a", "qa")), ("s", ())] + chain_rules(298)[:-1] + [(name_of(297), ("s",))])
        told = full_table(grammar)
        self.assertIs(holds(grammar, told[1]), True)
        with self.assertRaises(TooMany):
            run(grammar, told[1], ("a",) * 24)
        self.assertEqual(run(grammar, told[1], ("a",) * 9)[0], "tree")


if __name__ == "__main__":
    unittest.main()
