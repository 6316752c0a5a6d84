"""The full table, [7.4]."""

import unittest

from paperreader.coming import goes_on, wrong_at
from paperreader.errors import NoGrammar, TooMany
from paperreader.full import full_table
from paperreader.grammars import Grammar
from paperreader.looking import trimmed
from paperreader.readers import run
from paperreader.tables import Table
from tests.looks import chances, grammar_of, is_tree_of, name_of, plain_trees, random_grammar, words_in
from tests.tablelooks import full_by_look
from tests.textlooks import all_rows, texts_up_to


def told(grammar):
    """What full_table tells, its states in the place of the table."""
    out = full_table(grammar)
    return out if out[0] == "clash" else ("table", out[1].states)


class HeldAgainstTheWords(unittest.TestCase):
    def test_small_grammars(self):
        kinds = {"table": 0, "clash": 0}
        for chance in chances(500, "full"):
            parts, words, rules = chance.randint(1, 4), chance.randint(1, 3), chance.randint(2, 9)
            grammar = random_grammar(chance, parts, words, rules)
            look = full_by_look(grammar, 120)
            if look is not None:
                kinds[look[0]] += 1
                self.assertEqual(told(grammar), look)
        self.assertTrue(min(kinds.values()) > 100, kinds)

    def test_kinds(self):
        for text in (
            "s=", "s=a", "s=s", "s=s;s=a", "s=t x;t=a;x=x", "s=x;x=x", "s=t u;t=;t=a;u=;u=a", "s=a s a;s=",
            "s=a s b;s=", "s=e s;s=b;e=a;e=", "s=s s;s=a", "e=e p t;e=t;t=t m f;t=f;f=o e c;f=a",
            "s=a e c;s=a f d;s=b f c;s=b e d;e=x;f=x", "s=i s;s=i s e s;s=a", "s=l q r;s=r;l=t r;l=i;r=l",
        ):
            self.assertEqual(told(grammar_of(text)), full_by_look(grammar_of(text)), text)


class Tables(unittest.TestCase):
    def test_plain(self):
        kind, table = full_table(grammar_of("s=a s;s="))
        self.assertEqual(kind, "table")
        self.assertIsInstance(table, Table)
        self.assertEqual(table.states, (
            ((("", ("make", 1)), ("a", ("shift", 1))), (("s", 2),), ((-1, 0, ""), (0, 0, ""), (1, 0, ""))),
            ((("", ("make", 1)), ("a", ("shift", 1))), (("s", 3),), ((0, 0, ""), (0, 1, ""), (1, 0, ""))),
            ((("", ("end",)),), (), ((-1, 1, ""),)),
            ((("", ("make", 0)),), (), ((0, 2, ""),)),
        ))

    def test_without_any_text(self):
        table = full_table(grammar_of("s=a s"))[1]
        self.assertEqual(len(table.states), 4)
        self.assertEqual(run(grammar_of("s=a s"), table, ("a", "a")), ("wrong", 2, ("a",)))

    def test_reads_and_goes_wrong_where_rows_do(self):
        many = 0
        for chance in chances(200, "full reads"):
            try:
                grammar = trimmed(random_grammar(chance, parts=3, words=2, most_rules=6))
            except NoGrammar:
                continue
            kind, *out = full_table(grammar)
            if kind == "clash":
                continue
            many += 1
            texts = texts_up_to(grammar, 4)
            for row in all_rows(grammar.words + ("z",), 4):
                read = run(grammar, out[0], row)
                if row in texts:
                    self.assertEqual(read, ("tree", plain_trees(grammar, row)[0]))
                    self.assertEqual(len(plain_trees(grammar, row)), 1)
                    self.assertTrue(is_tree_of(grammar, grammar.start, read[1]) and words_in(read[1]) == row)
                else:
                    self.assertEqual(read[:2], ("wrong", wrong_at(grammar, row)))
                    self.assertTrue(set(goes_on(grammar, row[:read[1]])) <= set(read[2]))
        self.assertTrue(many > 60)


class Clashes(unittest.TestCase):
    def test_plain(self):
        self.assertEqual(full_table(grammar_of("s=s s;s=a")), ("clash", ("s", "s"), "a", (0, 2, "a"), (1, 0, "")))
        self.assertEqual(full_table(grammar_of("s=s;s=a")), ("clash", ("s",), "", (-1, 1, ""), (0, 1, "")))
        self.assertEqual(full_table(grammar_of("s=t;s=u;t=a;u=a")), ("clash", ("a",), "", (2, 1, ""), (3, 1, "")))
        self.assertEqual(full_table(grammar_of("s=;s=t;t=")), ("clash", (), "", (0, 0, ""), (2, 0, "")))

    def test_the_least_two(self):
        # All of the first ones call for one shift: of these the least, then the first that calls for another deed.
        grammar = grammar_of("s=a b;s=a b c;s=t b d;s=t b;t=a;t=u;u=a;s=v b;v=a")
        self.assertEqual(full_table(grammar), ("clash", ("a",), "b", (0, 1, ""), (4, 1, "b")))
        grammar = grammar_of("t=u;s=a;t=u b;u=w b;u=v b c;w=a;v=a;t=a b;w=s")
        self.assertEqual(full_table(grammar), ("clash", ("a",), "b", (1, 1, "b"), (5, 1, "b")))

    def test_the_first_word(self):
        grammar = grammar_of("s=t c;s=u c;s=t b;s=u b;t=a;u=a")
        self.assertEqual(full_table(grammar), ("clash", ("a",), "b", (4, 1, "b"), (5, 1, "b")))
        grammar = grammar_of("s=t;s=u;s=t b;s=u b;t=a;u=a")
        self.assertEqual(full_table(grammar), ("clash", ("a",), "", (4, 1, ""), (5, 1, "")))

    def test_the_first_state(self):
        # Nearer by number is what names come to first, state by state, each one's names in order.
        grammar = grammar_of("s=b x;s=c x;s=a a x;x=y;x=z;y=w;z=w")
        self.assertEqual(full_table(grammar)[:3], ("clash", ("b", "w"), ""))
        grammar = grammar_of("s=b b x;s=t x;t=d e;x=y;x=z;y=w;z=w")
        self.assertEqual(full_table(grammar)[:3], ("clash", ("t", "w"), ""))

    def test_names_that_lead_there_are_the_first(self):
        grammar = grammar_of("s=a x b;s=b x b;x=a x;x=y;x=z;y=w;z=w")
        self.assertEqual(full_table(grammar)[1], ("a", "w"))


class HowMany(unittest.TestCase):
    def long_rules(self, many):
        """Rules of which the full table has so many states."""
        rules = []
        left = many - 2
        while left > 0:
            names = tuple(name_of(len(rules) * 10 + at) for at in range(min(left, 8)))
            rules.append(("s", names))
            left -= len(names)
        return rules

    def test_600_and_more(self):
        for many in (2, 3, 100, 599, 600):
            grammar = Grammar(self.long_rules(many) if many > 2 else [("s", ())])
            kind, table = full_table(grammar)
            self.assertEqual((kind, len(table.states)), ("table", many))
        for many in (601, 602, 1000):
            with self.assertRaises(TooMany):
                full_table(Grammar(self.long_rules(many)))

    def test_clash_or_not(self):
        # The ring s = s clashes in the state of s read, and brings no state with it.
        for many in (598, 600):
            kind, *out = full_table(Grammar(self.long_rules(many) + [("s", ("s",))]))
            self.assertEqual((kind, out[0]), ("clash", ("s",)))
        for many in (601, 700):
            with self.assertRaises(TooMany):
                full_table(Grammar(self.long_rules(many) + [("s", ("s",))]))

    def test_many_words(self):
        rules = [("s", ("s", name_of(at), "t")) for at in range(120)] + [("s", ("t",)), ("t", ("w",))]
        kind, table = full_table(Grammar(rules))
        self.assertEqual((kind, len(table.states)), ("table", 244))
        row = ("w", name_of(3), "w", name_of(119), "w")
        self.assertEqual(words_in(run(Grammar(rules), table, row)[1]), row)


if __name__ == "__main__":
    unittest.main()
