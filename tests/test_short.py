"""The short table, [7.4]."""

import unittest

from paperreader.coming import wrong_at
from paperreader.errors import NoGrammar, NoTable, TooMany
from paperreader.full import full_table
from paperreader.grammars import Grammar
from paperreader.holding import holds
from paperreader.looking import trimmed
from paperreader.readers import run
from paperreader.short import short_table
from paperreader.tables import Table
from tests.looks import chances, grammar_of, is_tree_of, name_of, random_grammar, words_in
from tests.tablelooks import cores_of, full_states, short_by_look
from tests.textlooks import all_rows, texts_up_to

SUMS = "e=e p t;e=t;t=t m f;t=f;f=o e c;f=a"


def nested_grammar(chance):
    """Words ahead of and behind parts that are read by the same words: states alike but for what comes behind."""
    parts = ["e", "f", "k"][:chance.randint(2, 3)]
    rules = []
    for word in ["a", "b", "g"][:chance.randint(2, 3)]:
        for part in parts:
            tail = chance.choice(["c", "d", "h", None])
            if tail:
                rules.append(("s", (word, part, tail)))
    for part in parts:
        upper = part
        for letter in "xyz"[:chance.randint(1, 3)]:
            rules.append((upper, (("w",) if chance.random() < 0.7 else ()) + (part + letter,)))
            upper = part + letter
        rules.append((upper, ("x",)))
    return Grammar(rules or [("s", ())])


def cores_in(table):
    """How many kinds of rules half read the states have."""
    return len({frozenset(cores_of(state[2])) for state in table.states})


class HeldAgainstTheWords(unittest.TestCase):
    def check(self, grammar):
        """The short table, held against the test's own; None where the full one clashes."""
        kind, *told = full_table(grammar)
        if kind == "clash":
            with self.assertRaises(NoTable):
                short_table(grammar)
            return None
        table = short_table(grammar)
        self.assertIsInstance(table, Table)
        self.assertEqual(table.states, short_by_look(grammar))
        self.assertIs(holds(grammar, table), True)
        return len(table.states) - len(told[0].states), len(table.states) - cores_in(table)

    def test_small_grammars(self):
        kinds = {"clash": 0, "alike": 0, "shorter": 0}
        for chance in chances(400, "short"):
            told = self.check(random_grammar(chance, chance.randint(1, 4), chance.randint(1, 3), chance.randint(2, 8)))
            kinds["clash" if told is None else "shorter" if told[0] < 0 else "alike"] += 1
        self.assertTrue(min(kinds.values()) > 8, kinds)

    def test_nested_grammars(self):
        between = 0
        for chance in chances(200, "short and nested"):
            told = self.check(nested_grammar(chance))
            between += told is not None and told[0] < 0 < told[1]
        # Some states were put together, and others that are alike were not, for a clash.
        self.assertTrue(between > 3, between)

    def test_kinds(self):
        for text in (
            SUMS, "s=", "s=a s;s=", "s=a s", "s=l q r;s=r;l=t r;l=i;r=l", "s=c c;c=a c;c=b",
            "s=a e c;s=a f d;s=b f c;s=b e d;e=x;f=x", "s=a e c;s=a f d;s=b f c;s=b e d;e=w g;f=w h;g=x;h=x",
            "s=a e c;s=a f d;s=b e d;s=b f h;e=w x;f=w x",
        ):
            self.check(grammar_of(text))


class PutTogether(unittest.TestCase):
    def states(self, text):
        """How many states the full table has, and the short one."""
        grammar = grammar_of(text)
        return len(full_table(grammar)[1].states), len(short_table(grammar).states)

    def test_how_many(self):
        self.assertEqual(self.states(SUMS), (22, 12))
        self.assertEqual(self.states("s=c c;c=a c;c=b"), (10, 7))
        self.assertEqual(self.states("s=a s;s="), (4, 4))

    def test_not_where_there_is_a_clash(self):
        self.assertEqual(self.states("s=a e c;s=a f d;s=b f c;s=b e d;e=x;f=x"), (14, 14))
        # At the end alone, and at a word alone.
        for text, fewer in (("s=a e;s=a f d;s=b f;s=b e c", 0), ("s=a e h;s=a f d;s=b f h;s=b e c", 0),
                            ("s=a e;s=a f d;s=b f d;s=b e c", 1), ("s=a e h;s=a f d;s=b f d;s=b e c", 1)):
            full, short = self.states(text + ";e=x;f=x")
            self.assertEqual(full - short, fewer)

    def test_with_the_first_one_that_can_be(self):
        # The states of x behind a and behind b clash; the third one can go with both, or with the second alone.
        for text, words in (("s=g e c;s=g f h", ("c", "d", "h")), ("s=g e d;s=g f h", ("c", "d", "h"))):
            grammar = grammar_of("s=a e c;s=a f d;s=b f c;s=b e d;e=x;f=x;" + text)
            table = short_table(grammar)
            self.assertEqual(len(full_table(grammar)[1].states) - len(table.states), 1)
            behind = [table.states[dict(table.states[0][0])[word][1]] for word in "abg"]
            led = [dict(state[0])["x"][1] for state in behind]
            first = 0 if text.startswith("s=g e c") else 1
            self.assertEqual([at for at in (0, 1) if led[at] == led[2]], [first])
            self.assertEqual(tuple(word for word, _ in table.states[led[2]][0]), words)
        grammar = grammar_of("s=a e c;s=a f d;s=b f c;s=b e d;e=x;f=x;s=g e h;s=g f i")
        table = short_table(grammar)
        led = [dict(table.states[dict(table.states[0][0])[word][1]][0])["x"][1] for word in "abg"]
        self.assertEqual(led[0], led[2])

    def test_not_where_a_clash_comes_of_others(self):
        # Behind w the states are alike and do not clash, but those behind w x do.
        full, short = self.states("s=a e c;s=a f d;s=b f c;s=b e d;e=w g;f=w h;g=x;h=x")
        self.assertEqual(full - short, 2)
        # What else is behind w is put together all the same: w g, w h, w y, w y y and w z.
        full, short = self.states("s=a e c;s=a f d;s=b f c;s=b e d;e=w g;f=w h;g=x;h=x;g=y y;h=z")
        self.assertEqual(full - short, 5)

    def test_put_together_with_others(self):
        grammar = grammar_of("s=a e c;s=b e d;e=w g;g=x")
        states = full_states(grammar, 100)
        self.assertEqual(len(states) - len(short_table(grammar).states), 3)


class Readers(unittest.TestCase):
    def test_reads_as_the_full_one(self):
        many = 0
        for chance in chances(150, "short reads"):
            grammar = random_grammar(chance, parts=3, words=2, most_rules=6)
            kind, *told = full_table(grammar)
            if kind == "table":
                many += 1
                short = short_table(grammar)
                for row in all_rows(grammar.words, 4):
                    self.assertEqual(run(grammar, short, row)[0], run(grammar, told[0], row)[0])
                    if run(grammar, short, row)[0] == "tree":
                        self.assertEqual(run(grammar, short, row), run(grammar, told[0], row))
        self.assertTrue(many > 50)

    def test_of_trimmed_ones_both_go_wrong_where_rows_do(self):
        grammars = [random_grammar(chance, parts=3, words=2, most_rules=7) for chance in chances(150, "trimmed reads")]
        grammars += [nested_grammar(chance) for chance in chances(20, "trimmed and nested")]
        many = 0
        for grammar in grammars:
            try:
                grammar = trimmed(grammar)
            except NoGrammar:
                continue
            kind, *told = full_table(grammar)
            if kind == "clash":
                continue
            many += 1
            texts = texts_up_to(grammar, 4)
            for row in all_rows((grammar.words + ("z",))[:5], 3 if len(grammar.words) > 3 else 4):
                for table in (told[0], short_table(grammar)):
                    read = run(grammar, table, row)
                    self.assertEqual(read[0] == "tree", row in texts)
                    if read[0] == "tree":
                        self.assertTrue(is_tree_of(grammar, grammar.start, read[1]) and words_in(read[1]) == row)
                    else:
                        self.assertEqual(read[1], wrong_at(grammar, row))
        self.assertTrue(many > 60)


class Refused(unittest.TestCase):
    def test_clashes(self):
        for text in ("s=s s;s=a", "s=s;s=a", "s=t;s=u;t=a;u=a", "s=i s;s=i s e s;s=a"):
            with self.assertRaises(NoTable):
                short_table(grammar_of(text))

    def test_too_many(self):
        rules = [("s", tuple(name_of(at * 10 + place) for place in range(8))) for at in range(75)]
        with self.assertRaises(TooMany):
            short_table(Grammar(rules))
        self.assertEqual(len(short_table(Grammar(rules[:74] + [("s", rules[74][1][:6])])).states), 600)
        self.assertEqual(len(short_table(Grammar(rules[:10])).states), 82)


if __name__ == "__main__":
    unittest.main()
