"""Rows read, [0.2] (a) and [4.2]."""

import unittest

from paperreader.charts import refuses
from paperreader.errors import NoRow, TooMany
from paperreader.grammars import Grammar
from paperreader.readings import reading
from paperreader.trees import is_tree, row_of, rules_in, steps_of
from tests.looks import (
    chain_rules, chances, grammar_of, is_tree_of, name_of, order_of, plain_trees, random_grammar, refuses_by_points,
    samples, start_trees, things, words_in,
)


class Readings(unittest.TestCase):
    def check(self, grammar, row):
        """Hold what is told against the test's own looks, and tell the tree or None."""
        kind, told = reading(grammar, row)
        if kind == "tree":
            self.assertTrue(is_tree_of(grammar, grammar.start, told))
            self.assertEqual(row_of(told), row)
            return told
        self.assertEqual(kind, "chart")
        self.assertTrue(refuses_by_points(grammar, row, told))
        self.assertIs(refuses(grammar, row, told), True)
        return None

    def test_plain(self):
        grammar = grammar_of("s=t s;s=;t=a")
        self.assertEqual(reading(grammar, ()), ("tree", (1, ())))
        self.assertEqual(reading(grammar, ("a",)), ("tree", (0, ((2, ("a",)), (1, ())))))
        self.assertEqual(reading(grammar_of("s=a"), ()), ("chart", (((0, 0, 0),),)))

    def test_small_grammars(self):
        kinds = [0, 0]
        for grammar, row in samples(300, "reading"):
            tree = self.check(grammar, row)
            plain = plain_trees(grammar, row)
            kinds[tree is None] += 1
            self.assertEqual(tree is None, not plain)
            if plain:
                self.assertEqual(rules_in(tree), min(order_of(other)[0] for other in plain))
        self.assertTrue(min(kinds) > 50)

    def test_all_small_texts_are_read(self):
        for chance in chances(60, "texts read"):
            grammar = random_grammar(chance, parts=4)
            for tree in start_trees(grammar, 5)[:20]:
                row = words_in(tree)
                if len(row) <= 24:
                    self.assertTrue(rules_in(self.check(grammar, row)) <= order_of(tree)[0])

    def test_words_that_are_parts(self):
        self.assertIsNone(self.check(grammar_of("s=t;t=a"), ("t",)))
        self.assertIsNone(self.check(grammar_of("s=t;t=a"), ("s",)))

    def test_chains(self):
        for many in (120, 200, 299):
            for back in (False, True):
                grammar = Grammar(chain_rules(many, back))
                tree = self.check(grammar, ("w",))
                self.assertEqual(rules_in(tree), many)
                self.assertIs(is_tree(grammar, tree), many <= 200)
                self.assertIsNone(self.check(grammar, ()))
                self.assertIsNone(self.check(grammar, ("w", "w")))

    def test_chains_of_empty_parts(self):
        rules = chain_rules(120)[:-1] + [(name_of(119), ())]
        self.assertEqual(steps_of(self.check(Grammar(rules), ())), tuple(range(120)))

    def test_rows_of_24_words(self):
        grammar = grammar_of("s=s s;s=a;s=b;s=")
        for row in (("a",) * 24, ("a", "b") * 12):
            self.assertEqual(rules_in(self.check(grammar, row)), 47)
        self.assertIsNone(self.check(grammar, ("a",) * 23 + ("c",)))
        grammar = grammar_of("s=a s b;s=")
        self.assertEqual(rules_in(self.check(grammar, ("a",) * 12 + ("b",) * 12)), 13)
        self.assertIsNone(self.check(grammar, ("a",) * 11 + ("b",) * 13))

    def test_larger_grammars(self):
        for chance in chances(6, "larger readings"):
            names = [name_of(number) for number in range(40)]
            rules = {}
            while len(rules) < 250:
                behind = [chance.choice(names + ["a", "b"] * 15) for _ in range(chance.randint(0, 5))]
                rules[(names[len(rules)] if len(rules) < 40 else chance.choice(names), tuple(behind))] = True
            grammar = Grammar(list(rules))
            for many in (0, 1, 12):
                self.check(grammar, tuple(chance.choice("ab") for _ in range(many)))

    def test_trees_too_large(self):
        rules = [(name_of(at), (name_of(at + 1),) * 8) for at in range(299)] + [(name_of(299), ())]
        with self.assertRaises(TooMany):
            reading(Grammar(rules), ())
        self.assertEqual(reading(Grammar(rules), ("a",))[0], "chart")

    def test_large_trees_of_short_rows(self):
        for many in (10, 13, 18):
            rules = [(name_of(at), (name_of(at + 1),) * 2) for at in range(many)] + [(name_of(many), ())]
            kind, tree = reading(Grammar(rules), ())
            self.assertEqual((kind, rules_in(tree)), ("tree", 2 ** (many + 1) - 1))

    def test_no_row(self):
        for thing in things() + [("a",) * 25, ["a"], ("a", 1), ("A",)]:
            if repr(thing) not in ("()", "('a',)", "('s',)"):
                with self.assertRaises(NoRow):
                    reading(grammar_of("s=a"), thing)


if __name__ == "__main__":
    unittest.main()
