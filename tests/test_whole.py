"""The promise over the whole program, [0.2] and [0.3]: all looks at a row agree."""

import unittest

from paperreader.charts import least_chart, refuses
from paperreader.coming import goes_on, is_beginning, rest_of, wrong_at
from paperreader.costs import cost_between
from paperreader.counting import first_trees, how_many, pump, pumped
from paperreader.crossing import meet, show_none
from paperreader.desk import answers
from paperreader.errors import NoDeed, NoGrammar, NoTree, TooMany
from paperreader.full import full_table
from paperreader.grammars import Grammar
from paperreader.grammartexts import read, written
from paperreader.holding import holds
from paperreader.kept import Kept
from paperreader.leftless import leftless, worded
from paperreader.looking import fruitful, trimmed
from paperreader.machines import Machine
from paperreader.mending import mended
from paperreader.moves import trimming, turning, twos, unfolding
from paperreader.numbering import nth_tree, place_of
from paperreader.plainer import filled, straight
from paperreader.readers import run
from paperreader.readings import reading
from paperreader.short import short_table
from paperreader.tolls import is_fair, toll_of
from paperreader.trees import is_tree, row_of, rules_in, steps_of, tree_by
from paperreader.treetexts import read_tree, tree_text
from paperreader.unlike import parted, twofold
from tests.looks import chances, grammar_of, is_tree_of, random_grammar, random_row, samples
from tests.textlooks import all_rows, texts_up_to


def machine_of(row):
    """The machine of just one row."""
    return Machine(len(row) + 1, [(at, word, at + 1) for at, word in enumerate(row)], [len(row)])


def changes_of(grammar):
    """All changes of a grammar that can be made."""
    makers = [lambda: trimming(grammar), lambda: twos(grammar), lambda: filled(grammar), lambda: straight(grammar),
              lambda: leftless(grammar), lambda: worded(grammar), lambda: plain(grammar)]
    makers += [lambda part=part: turning(grammar, part) for part in grammar.parts]
    makers += [lambda k=k, at=at: unfolding(grammar, k, at)
               for k, rule in enumerate(grammar.rules) for at in range(len(rule[1]))]
    found = []
    for make in makers:
        try:
            found.append(make())
        except (NoDeed, NoGrammar, TooMany):
            pass
    return found


def plain(grammar):
    """The change to a grammar trimmed, filled, straight, one behind the other."""
    change = trimming(grammar)
    change = change.then(filled(change.second))
    return change.then(straight(change.second))


class Agree(unittest.TestCase):
    def check_tree(self, grammar, row, tree):
        """What is promised of a tree of the row."""
        self.assertTrue(is_tree_of(grammar, grammar.start, tree))
        self.assertEqual(row_of(tree), row)
        self.assertTrue(is_tree(grammar, tree))
        self.assertEqual(read_tree(grammar, tree_text(tree)), tree)
        self.assertEqual(tree_by(grammar, steps_of(tree)), tree)
        if rules_in(tree) <= 20:
            self.assertEqual(nth_tree(grammar, grammar.start, rules_in(tree), place_of(grammar, tree)), tree)

    def check_row(self, grammar, row, is_text):
        """All looks at a row tell whether it is a text."""
        kind, found = reading(grammar, row)
        self.assertEqual(kind, "tree" if is_text else "chart")
        if is_text:
            self.check_tree(grammar, row, found)
        else:
            self.assertIs(refuses(grammar, row, found), True)
        self.assertIs(refuses(grammar, row, least_chart(grammar, row)), not is_text)
        self.assertEqual(how_many(grammar, row) != 0, is_text)
        self.assertEqual(len(first_trees(grammar, row, 1)), int(is_text))
        self.assertEqual(wrong_at(grammar, row) is None, is_text)
        self.assertEqual(rest_of(grammar, row) == (), is_text)
        self.check_beginnings(grammar, row)

    def check_beginnings(self, grammar, row):
        """Where a row goes wrong, and how it goes on, by its rests."""
        place = wrong_at(grammar, row)
        for at in range(len(row) + 1):
            is_right = place is None or at <= place
            self.assertIs(is_beginning(grammar, row[:at]), is_right if grammar.start in fruitful(grammar) else False)
            rest = rest_of(grammar, row[:at])
            self.assertEqual(rest is not None, is_beginning(grammar, row[:at]))
            if rest:
                self.assertIn(rest[0], goes_on(grammar, row[:at]))
                self.assertEqual(reading(grammar, row[:at] + rest)[0], "tree")
            if at < len(row) and is_beginning(grammar, row[:at]):
                self.assertEqual(row[at] in goes_on(grammar, row[:at]), is_beginning(grammar, row[:at + 1]))

    def check_machine(self, grammar, row, is_text):
        """The machine of just the row takes a text where the row is one."""
        kind, found = meet(grammar, machine_of(row))
        self.assertEqual(kind, "tree" if is_text else "ways")
        if is_text:
            self.check_tree(grammar, row, found)
            self.assertEqual(rules_in(found), rules_in(reading(grammar, row)[1]))
        else:
            self.assertIs(show_none(grammar, machine_of(row), found), True)

    def check_mend(self, grammar, row, is_text):
        """A row is mended at no cost where it is a text."""
        if grammar.start not in fruitful(grammar):
            self.assertFalse(is_text)
            with self.assertRaises(NoGrammar):
                mended(grammar, row)
            return
        cost, tree = mended(grammar, row)
        self.assertEqual(cost == 0, is_text)
        self.assertEqual(cost_between(row, row_of(tree)), cost)
        self.check_tree(grammar, row_of(tree), tree)
        toll = toll_of(grammar, row)
        self.assertIs(is_fair(grammar, row, toll), True)
        self.assertEqual(toll[(0, grammar.start, len(row))], cost)

    def check_kept(self, chance, grammar, row):
        """A kept row that is made to be this one, by deeds of some kind."""
        held = Kept(grammar, random_row(chance, grammar, 4))
        while held.now():
            held.cut(chance.randrange(len(held.now())))
        for at, word in enumerate(row):
            held.put(at, "z")
            held.change(at, word)
        held.put(0, "z")
        held.back()
        self.assertEqual(held.now(), row)
        self.assertEqual(held.reading_now(), reading(grammar, row))
        self.assertEqual(held.chart(), least_chart(grammar, row))

    def check_tables(self, grammar, row, is_text):
        """Both tables read just the texts, each to its only tree; whether there are such."""
        found = full_table(grammar)
        if found[0] == "clash":
            return False
        for table in (found[1], short_table(grammar)):
            self.assertIs(holds(grammar, table), True)
            told = run(grammar, table, row)
            self.assertEqual(told[0], "tree" if is_text else "wrong")
            if is_text:
                self.assertEqual(told[1], reading(grammar, row)[1])
                self.assertEqual(how_many(grammar, row), 1)
        if grammar.start in fruitful(grammar) and not is_text:
            live = trimmed(grammar)
            for table in (full_table(live)[1], short_table(live)):
                self.assertEqual(run(live, table, row)[1], wrong_at(grammar, row))
        return True

    def check_changes(self, grammar, row, is_text):
        """Changed grammars read the same rows, and carry their trees there and back."""
        for change in changes_of(grammar):
            is_other = any(stage.needs_words for stage in change.stages)
            kind, found = reading(change.second, row)
            self.assertEqual(kind == "tree", is_text and (bool(row) or not is_other))
            if kind == "tree" and is_tree(change.second, found):
                back = change.back(found)
                self.assertTrue(is_tree_of(grammar, grammar.start, back))
                self.assertEqual(row_of(back), row)
                if is_tree(grammar, back):
                    self.assertEqual(change.there(back), found)
            for tree in first_trees(grammar, row, 3):
                if is_tree(grammar, tree):
                    self.check_there(change, row, tree, is_other)

    def check_there(self, change, row, tree, is_other):
        """A tree carried there, and back again by an exact change."""
        if is_other and not row:
            with self.assertRaises(NoTree):
                change.there(tree)
            return
        there = change.there(tree)
        self.assertTrue(is_tree_of(change.second, change.second.start, there))
        self.assertEqual(row_of(there), row)
        if change.is_exact:
            self.assertEqual(change.back(there), tree)

    def check_desk(self, grammar, row, is_text):
        """What the desk answers."""
        words = " ".join(row)
        told = answers(f"{written(grammar)}\nread {words}\nmany {words}\nwrong {words}\nmend {words}")
        self.assertEqual([told[0] != "no", told[1] != "0", told[2] == "text"], [is_text] * 3)
        self.assertEqual(told[3].startswith("0 "), is_text)
        if is_text:
            self.check_tree(grammar, row, read_tree(grammar, told[0]))

    def check_all(self, chance, grammar, row, is_text):
        """All of this."""
        self.check_row(grammar, row, is_text)
        self.check_machine(grammar, row, is_text)
        self.check_mend(grammar, row, is_text)
        self.check_kept(chance, grammar, row)
        self.check_changes(grammar, row, is_text)
        self.check_desk(grammar, row, is_text)
        return self.check_tables(grammar, row, is_text)

    def test_small_grammars(self):
        kinds = {}
        for chance in chances(250, "the whole"):
            grammar = random_grammar(chance, parts=chance.randint(1, 4), words=chance.randint(1, 2), most_rules=6)
            texts = texts_up_to(grammar, 4)
            rows = sorted(all_rows(grammar.words[:2], 2)) + [random_row(chance, grammar, 4) for _ in range(3)]
            for row in rows:
                has_table = self.check_all(chance, grammar, row, row in texts)
                kinds[(row in texts, has_table)] = kinds.get((row in texts, has_table), 0) + 1
        self.assertGreater(min(kinds.values()), 30)
        self.assertEqual(len(kinds), 4)

    def test_grammars_with_texts(self):
        for (grammar, row), chance in zip(samples(400, "the whole of texts"), chances(400, "whole")):
            self.check_all(chance, grammar, row, row in texts_up_to(grammar, len(row)))

    def test_grammars_known_well(self):
        for text, row, is_text in (
            ("e=e p t;e=t;t=a;t=o e c", "a p o a c", True), ("e=e p t;e=t;t=a;t=o e c", "a p o a", False),
            ("s=o s c s;s=", "o o c c o c", True), ("s=s s;s=a;s=", "a a", True), ("s=a s a;s=b s b;s=", "a b b a", True),
            ("s=t u;t=u;u=t;t=;u=a;s=s s", "a", True), ("s=t;t=u;u=s;u=a;u=a u", "a a", True), ("s=s", "", False),
            ("s=i s;s=i s l s;s=a", "i i a l a", True), ("s=a b c", "a b", False),
        ):
            chance = chances(1, text)[0]
            self.check_all(chance, grammar_of(text), tuple(row.split()), is_text)


class Written(unittest.TestCase):
    def test_what_is_written_is_read_as_the_same(self):
        for chance in chances(150, "written whole"):
            grammar = random_grammar(chance, parts=4)
            self.assertEqual(read(written(grammar)).rules, grammar.rules)
            for change in changes_of(grammar):
                self.assertEqual(read(written(change.second)).rules, change.second.rules)

    def test_changed_grammars_have_the_same_texts(self):
        for chance in chances(60, "parted changes"):
            grammar = random_grammar(chance, parts=3, words=2, most_rules=6)
            if len(grammar.words) > 3:
                continue
            for change in changes_of(grammar):
                row = parted(grammar, change.second, 5)
                if any(stage.needs_words for stage in change.stages) and () in texts_up_to(grammar, 0):
                    self.assertEqual(row, ())
                else:
                    self.assertIsNone(row)


class Numbers(unittest.TestCase):
    def test_twofold_and_how_many(self):
        for chance in chances(100, "twofold whole"):
            grammar = random_grammar(chance, parts=3, words=2, most_rules=6)
            if len(grammar.words) > 3:
                continue
            told = twofold(grammar, 3)
            rows = sorted(all_rows(grammar.words, 3), key=lambda row: (len(row), row))
            first = next((row for row in rows if how_many(grammar, row) not in (0, 1)), None)
            self.assertEqual(None if told is None else told[0], first)
            if full_table(grammar)[0] == "table":
                self.assertIsNone(first)

    def test_trees_that_never_end_can_be_pumped(self):
        held = 0
        for grammar, row in samples(500, "pumped whole"):
            told = pumped(grammar, row)
            self.assertEqual(told is not None, how_many(grammar, row) is None)
            if told is not None:
                trees = [pump(grammar, *told, times) for times in range(6)]
                for tree in trees:
                    self.assertTrue(is_tree_of(grammar, grammar.start, tree))
                    self.assertEqual(row_of(tree), row)
                self.assertEqual(len(set(trees)), 6)
                held += 1
        self.assertGreater(held, 30)


class HandedIn(unittest.TestCase):
    def test_may_be_changed_behind(self):
        rules = [("s", ("a", "s")), ("s", ())]
        grammar = Grammar(rules)
        steps, ends = [(0, "a", 0)], [0]
        machine = Machine(1, steps, ends)
        toll = toll_of(grammar, ("a",))
        kept = dict(toll)
        self.assertIs(is_fair(grammar, ("a",), toll), True)
        self.assertEqual(toll, kept)
        rules.clear()
        steps.clear()
        ends.clear()
        self.assertEqual(reading(grammar, ("a",))[0], "tree")
        self.assertIs(machine.takes(("a",)), True)

    def test_told_is_the_askers_own(self):
        grammar = grammar_of("s=a s;s=")
        machine = Machine(1, [(0, "a", 0)], [0])
        for _ in range(2):
            for told in (grammar.rules_of("s"), first_trees(grammar, ("a",), 3), answers("s = a\n\nread a"),
                         fruitful(grammar)):
                self.assertTrue(told)
                told.clear()
            toll_of(grammar, ("a",)).clear()
            self.assertEqual(meet(grammar, machine), ("tree", (1, ())))


if __name__ == "__main__":
    unittest.main()
