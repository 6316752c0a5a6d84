"""Mends, [11.1] and [0.2] (h)."""

import unittest

from paperreader.costs import cost_between
from paperreader.errors import NoGrammar, NoRow, TooMany
from paperreader.grammars import Grammar
from paperreader.looking import fruitful
from paperreader.mending import mended
from paperreader.names import is_row
from paperreader.tolls import is_fair, toll_of
from paperreader.trees import row_of, rules_in
from tests.looks import chain_rules, chances, grammar_of, is_tree_of, name_of, random_grammar, random_row, things
from tests.mendlooks import distance
from tests.textlooks import all_rows, texts_up_to

FAR = 8


class Mends(unittest.TestCase):
    def check(self, grammar, row):
        """Hold the tree against the cost, and the cost against the toll; the cost."""
        told = mended(grammar, row)
        self.assertIsInstance(told, tuple)
        cost, tree = told
        self.assertTrue(is_tree_of(grammar, grammar.start, tree))
        self.assertEqual(cost_between(row, row_of(tree)), cost)
        return cost

    def check_least(self, grammar, row, texts):
        """Hold the cost against that of all texts up to a length; whether none of the longer ones can cost less."""
        cost = self.check(grammar, row)
        plain = min((distance(row, text) for text in texts), default=None)
        if len(row) + cost > FAR:
            return False
        self.assertEqual(cost, plain)
        return True

    def test_all_small_rows_of_small_grammars(self):
        for chance in chances(200, "mends"):
            grammar = random_grammar(chance, parts=chance.randint(1, 4), words=2)
            if grammar.start in fruitful(grammar):
                texts = texts_up_to(grammar, FAR if len(grammar.words) < 3 else 6)
                for row in all_rows(grammar.words[:2] + ("z",), 3):
                    cost = self.check(grammar, row)
                    if len(row) + cost <= (FAR if len(grammar.words) < 3 else 6):
                        self.assertEqual(cost, min(distance(row, text) for text in texts))

    def test_longer_rows(self):
        held = 0
        for chance in chances(600, "longer mends"):
            grammar = random_grammar(chance, parts=4, words=1, most_rules=9)
            if grammar.start in fruitful(grammar) and len(grammar.words) < 3:
                texts = texts_up_to(grammar, FAR)
                for _ in range(4):
                    held += self.check_least(grammar, random_row(chance, grammar, 6), texts)
        self.assertGreater(held, 600)

    def test_texts_cost_nothing(self):
        for chance in chances(80, "mends of texts"):
            grammar = random_grammar(chance, parts=3, words=2)
            for text in sorted(texts_up_to(grammar, 4))[:20]:
                self.assertEqual(self.check(grammar, text), 0)

    def test_plain(self):
        sums = grammar_of("e=e p t;e=t;t=a;t=o e c")
        for row, cost in (
            ("", 1), ("a", 0), ("p", 1), ("a a", 1), ("o a", 1), ("o a p", 1), ("o p", 2), ("a p p a", 1), ("c a o", 2),
            ("o o a c", 1), ("z", 1), ("z z z", 3), ("a z a", 1), ("e", 1), ("a p e", 1), ("t", 1),
        ):
            self.assertEqual(self.check(sums, tuple(row.split())), cost)

    def test_only_the_row_of_nothing(self):
        for text in ("s=", "s=t t;t=", "s=s s;s=t;t="):
            for many in (0, 1, 24):
                self.assertEqual(self.check(grammar_of(text), ("a",) * many), many)

    def test_empty_parts_beside_words(self):
        self.assertEqual(self.check(grammar_of("s=t a t;t="), ("a", "a", "a")), 2)
        self.assertEqual(self.check(grammar_of("s=t s t;s=a;t=;t=b"), ("b", "a", "b", "b")), 0)
        self.assertEqual(self.check(grammar_of("s=t s;s=s t;s=a b;t="), ("b", "a")), 2)

    def test_rows_of_24_words(self):
        lists = grammar_of("s=o t c;s=a;t=t k s;t=s")
        # A text with m times a, or o, has more than so many other words.
        self.assertEqual(self.check(lists, ("a",) * 24), 13)
        self.assertEqual(self.check(lists, ("o",) * 24), 13)
        self.assertEqual(self.check(lists, ("o",) * 11 + ("a",) + ("c",) * 12), 1)
        self.assertEqual(self.check(lists, ("z",) * 24), 24)
        self.assertEqual(self.check(grammar_of("s=s s;s=a b"), ("a",) * 24), 12)
        self.assertEqual(self.check(grammar_of("s=s s;s=a b;s="), ("b", "a") * 12), 2)

    def test_words_that_are_none_of_the_grammar(self):
        grammar = grammar_of("s=a t;t=b")
        self.assertEqual(self.check(grammar, ("s", "t")), 2)
        self.assertEqual(self.check(grammar, ("a", "t")), 1)
        self.assertEqual(self.check(grammar, ("a", "z", "b")), 1)
        self.assertEqual(self.check(grammar, ("t", "a", "s", "b")), 2)

    def test_texts_of_more_than_24_words(self):
        grammar = grammar_of(f"s={'t ' * 8};t={'a ' * 6}")
        self.assertEqual(self.check(grammar, ("a",) * 24), 24)
        self.assertEqual(self.check(grammar, ()), 48)
        self.assertEqual(self.check(grammar, ("b",) * 24), 48)
        self.assertEqual(self.check(grammar, ("a", "b") * 12), 36)

    def test_parts_without_texts_are_left_alone(self):
        self.assertEqual(self.check(grammar_of("s=a u;s=b b b;u=u;t=u"), ("a",)), 3)

    def test_chains(self):
        for back in (False, True):
            grammar = Grammar(chain_rules(300, back))
            for row, cost in ((), 1), (("w",), 0), (("v", "w", "w"), 2), (("v",), 1):
                self.assertEqual(self.check(grammar, row), cost)
            self.assertEqual(rules_in(mended(grammar, ("w",))[1]), 300)

    def test_rings(self):
        names = [name_of(number) for number in range(40)]
        rules = [(names[at], (names[(at + 1) % 40], "e")) for at in range(40)] + [("e", ()), ("e", ("b",))]
        grammar = Grammar(rules + [(names[20], ("a",))])
        for row, cost in (("b", "a"), 1), (("a", "b", "b"), 0), ((), 1), (("b",) * 24, 1), (("a",) + ("b",) * 23, 0):
            self.assertEqual(self.check(grammar, row), cost)

    def test_never_too_many_where_first_trees_are_small(self):
        chain = [("e" + name_of(at), ("e" + name_of(at + 1),)) for at in range(59)] + [("e" + name_of(59), ())]
        ways = [(name_of(at), ("e" + name_of(0),) * 7 + (name_of(at + 1),)) for at in range(100)]
        rules = ways + [(name_of(at), ()) for at in range(100)] + [(name_of(100), ("w",))] + chain
        self.assertEqual(rules_in(mended(Grammar(rules), ("w",))[1]), 42101)

    def test_too_many(self):
        rules = [(name_of(at), (name_of(at + 1),) * 8) for at in range(100)] + [(name_of(100), ("w",))]
        with self.assertRaises(TooMany):
            mended(Grammar(rules), ())
        with self.assertRaises(TooMany):
            mended(Grammar(rules), ("w",) * 24)
        grammar = Grammar(rules + [(name_of(0), ("w", "w"))])
        self.assertEqual(self.check(grammar, ("w",) * 24), 22)

    def test_larger_grammars(self):
        for chance in chances(3, "larger mends"):
            names = [name_of(number) for number in range(40)]
            rules = {(name, (chance.choice("abc"),)): True for name in names}
            while len(rules) < 250:
                rules[(chance.choice(names), tuple(chance.choice(names + list("abc") * 8) for _ in range(5)))] = True
            grammar = Grammar(list(rules))
            row = tuple(chance.choice("abcz") for _ in range(24))
            cost = self.check(grammar, row)
            toll = toll_of(grammar, row)
            self.assertIs(is_fair(grammar, row, toll), True)
            self.assertEqual(toll[(0, grammar.start, 24)], cost)


class Refused(unittest.TestCase):
    def test_no_row_then_no_grammar(self):
        for text in ("s=a", "s=s", "s=t a;t=s"):
            for thing in things() + [("a",) * 25, ["a"], ("A",), ("a", 1)]:
                if not is_row(thing):
                    with self.assertRaises(NoRow):
                        mended(grammar_of(text), thing)

    def test_no_text(self):
        for text in ("s=s", "s=a s", "s=t a;t=s", "s=u;t=a;u=u t"):
            for row in ((), ("a",), ("a",) * 24):
                with self.assertRaises(NoGrammar):
                    mended(grammar_of(text), row)


if __name__ == "__main__":
    unittest.main()
