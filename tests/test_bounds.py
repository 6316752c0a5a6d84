"""When trees are too large to be told: the last sentence of [3.1]."""

import unittest

from paperreader.bounds import check_told, first_sizes, has_small_firsts
from paperreader.counting import pumped
from paperreader.errors import TooMany
from paperreader.grammars import Grammar
from paperreader.looking import fruitful
from tests.looks import chain_rules, chances, grammar_of, name_of, order_of, random_grammar, trees_by_size, words_in


def empty_chain(many):
    """A chain of so many rules, its parts apart from other ones; nothing comes of it."""
    return [("e" + part, tuple("e" + name for name in names if name != "w")) for part, names in chain_rules(many)]


class FirstSizes(unittest.TestCase):
    def test_fewest_words_come_ahead_of_fewest_rules(self):
        grammar = grammar_of("s=a;s=t;t=u;u=;v=s a;v=a b;w=w")
        self.assertEqual(
            first_sizes(grammar), {"a": (1, 0), "b": (1, 0), "s": (0, 3), "t": (0, 2), "u": (0, 1), "v": (1, 4)}
        )

    def test_told_forth_and_back(self):
        for back in (False, True):
            sizes = first_sizes(Grammar(chain_rules(150, back)))
            self.assertEqual(sizes[name_of(0)], (1, 150))
            self.assertEqual(sizes[name_of(149)], (1, 1))

    def test_small_grammars(self):
        for chance in chances(100, "first sizes"):
            grammar = random_grammar(chance, most_rules=6, most_names=2)
            sizes = first_sizes(grammar)
            levels = trees_by_size(grammar, 6)
            self.assertEqual(sorted(sizes), sorted(fruitful(grammar) + list(grammar.words)))
            for part in fruitful(grammar):
                if sizes[part][1] <= 6:
                    trees = [tree for level in levels for tree in level.get(part, [])]
                    self.assertEqual(min((len(words_in(tree)), order_of(tree)[0]) for tree in trees), sizes[part])


class Told(unittest.TestCase):
    def refused(self, grammar, least, many):
        with self.assertRaises(TooMany):
            check_told(grammar, least, many)

    def test_small_first_trees(self):
        for many, is_small in ((1, True), (60, True), (61, False), (120, False)):
            self.assertIs(has_small_firsts(Grammar(chain_rules(many))), is_small)
            self.assertIs(has_small_firsts(Grammar([("s", ("x",)), ("x", ())] + chain_rules(many))), is_small)

    def test_never_where_all_have_at_most_60(self):
        check_told(Grammar(chain_rules(60)), 60, 10 ** 30)
        self.refused(Grammar(chain_rules(61)), 60, 10 ** 30)
        self.refused(Grammar(chain_rules(60)), 61, 10 ** 30)

    def test_not_where_the_tree_is_not_large(self):
        check_told(Grammar(chain_rules(61)), 10000, 10000)
        self.refused(Grammar(chain_rules(61)), 10001, 10001)

    def test_a_large_ring(self):
        ring = [(name_of(at), ("eqa",) * 7 + (name_of((at + 1) % 100),)) for at in range(100)]
        rules = [("qa", ("w",))] + ring + empty_chain(60)
        with self.assertRaises(TooMany):
            pumped(Grammar(rules), ("w",))

    def test_a_ring_far_away(self):
        way = [(name_of(at), ("eqa",) * 7 + (name_of(at + 1),)) for at in range(100)]
        rules = [("qa", ("w",))] + way + [(name_of(100), (name_of(100),)), (name_of(100), ("w",))]
        with self.assertRaises(TooMany):
            pumped(Grammar(rules + empty_chain(61)), ("w",))
        # The row's own first tree has one rule, but of what is on the way each first tree is large.
        with self.assertRaises(TooMany):
            pumped(Grammar(rules + empty_chain(60)), ("w",))


if __name__ == "__main__":
    unittest.main()
