"""Trees by number, [10.1] and [0.2] (g)."""

import unittest

from paperreader.errors import NoDeed, NoPart, NoTree
from paperreader.grammars import Grammar
from paperreader.numbering import count_trees, nth_tree, place_of
from paperreader.trees import is_tree, root_of, rules_in
from tests.looks import (
    chain_rules, chances, grammar_of, is_tree_of, name_of, nested, order_of, random_grammar, things, trees_by_size,
)


class HeldAgainstAllTrees(unittest.TestCase):
    def check(self, grammar, most):
        """Each part's trees of at most so many rules, counted, told and found again."""
        levels = trees_by_size(grammar, most)
        for part in grammar.parts:
            for rules in range(1, most + 1):
                trees = sorted(levels[rules].get(part, []), key=order_of)
                self.assertEqual(count_trees(grammar, part, rules), len(trees))
                for n, tree in enumerate(trees):
                    self.assertEqual(nth_tree(grammar, part, rules, n), tree)
                    self.assertEqual(place_of(grammar, tree), n)
                for n in (len(trees), len(trees) + 1, -1):
                    with self.assertRaises(NoDeed):
                        nth_tree(grammar, part, rules, n)

    def test_small_grammars(self):
        for chance in chances(600, "numbers"):
            self.check(random_grammar(chance, parts=chance.randint(1, 4), most_rules=5), 4)

    def test_more_rules_in_a_tree(self):
        for chance in chances(150, "more numbers"):
            self.check(random_grammar(chance, parts=3, most_rules=4, most_names=2), 6)

    def test_first_trees_of_unlike_sizes(self):
        # In order comes what begins with lesser steps, also where the tree at the left has more rules.
        self.check(grammar_of("s=t t;t=t u;t=u;t=;u=;u=a"), 7)

    def test_long_rules(self):
        self.check(grammar_of("s=t a t t b t t c;t=;t=b;t=t"), 7)


class Counts(unittest.TestCase):
    def test_plain(self):
        grammar = grammar_of("s=s s;s=a")
        catalan = [1, 1, 2, 5, 14, 42, 132, 429, 1430, 4862]
        for rules in range(1, 21):
            many = catalan[(rules - 1) // 2] if rules % 2 else 0
            self.assertEqual(count_trees(grammar, "s", rules), many)
        self.assertEqual([count_trees(grammar_of("s=s;s=a"), "s", rules) for rules in (1, 2, 20)], [1, 1, 1])

    def test_parts_that_are_not_fruitful(self):
        grammar = grammar_of("s=s a;t=s;t=")
        self.assertEqual([count_trees(grammar, "s", rules) for rules in range(1, 21)], [0] * 20)
        self.assertEqual([count_trees(grammar, "t", rules) for rules in (1, 2)], [1, 0])

    def test_parts_that_are_not_reached(self):
        self.assertEqual(count_trees(grammar_of("s=a;t=t t;t="), "t", 5), 2)

    def test_great_numbers(self):
        # Of s comes t eight times; of each t 290 trees of one rule.
        rules = [("s", ("t",) * 8)] + [("t", (name_of(number),)) for number in range(290)]
        self.assertEqual(count_trees(Grammar(rules), "s", 9), 290 ** 8)
        grammar = Grammar(rules)
        last = nth_tree(grammar, "s", 9, 290 ** 8 - 1)
        self.assertEqual(last, (0, ((290, (name_of(289),)),) * 8))
        self.assertEqual(place_of(grammar, last), 290 ** 8 - 1)
        tree = nth_tree(grammar, "s", 9, 290 ** 7 * 3 + 290 * 2 + 1)
        self.assertEqual([inner[0] for inner in tree[1]], [4, 1, 1, 1, 1, 1, 3, 2])

    def test_great_numbers_by_a_way_of_their_own(self):
        # Trees of 20 rules: so many ways to part 19 rules among eight, by convolutions.
        rules = [("s", ("s",) * 8)] + [("s", (name_of(number),) * (1 + number % 8)) for number in range(249)]
        counts = [0, 249]
        for size in range(2, 21):
            ways = [1] + [0] * (size - 1)
            for _ in range(8):
                ways = [sum(ways[x] * counts[y - x] for x in range(y + 1) if y - x < size) for y in range(size)]
            counts.append(ways[size - 1])
        grammar = Grammar(rules)
        for size in (1, 9, 17, 20):
            self.assertEqual(count_trees(grammar, "s", size), counts[size])
        self.assertGreater(counts[17], 10 ** 30)

    def test_there_and_back_far_in(self):
        for chance in chances(30, "far numbers"):
            grammar = random_grammar(chance, parts=4, most_rules=9)
            for part in grammar.parts:
                for rules in (9, 20):
                    many = count_trees(grammar, part, rules)
                    numbers = sorted({0, many // 3, many - 1, chance.randrange(many)}) if many else []
                    trees = [nth_tree(grammar, part, rules, n) for n in numbers]
                    self.assertEqual([place_of(grammar, tree) for tree in trees], numbers)
                    self.assertEqual(sorted(trees, key=order_of), trees)
                    for tree in trees:
                        self.assertTrue(is_tree_of(grammar, part, tree))
                        self.assertEqual((rules_in(tree), root_of(grammar, tree)), (rules, part))

    def test_rows_of_more_than_24_words(self):
        grammar = grammar_of("s=a a a a a a a s;s=a a a a a a a a")
        tree = nth_tree(grammar, "s", 20, 0)
        self.assertEqual((count_trees(grammar, "s", 20), place_of(grammar, tree)), (1, 0))


class Refused(unittest.TestCase):
    def test_parts_then_deeds(self):
        grammar = grammar_of("s=s s;s=a")
        for rules in (1, 0, 21, True, None):
            with self.assertRaises(NoPart):
                count_trees(grammar, "a", rules)
            for n in (0, -1, True):
                with self.assertRaises(NoPart):
                    nth_tree(grammar, "t", rules, n)

    def test_no_part(self):
        grammar = grammar_of("s=a")
        for thing in things() + ["a", "z", "", "S"]:
            if type(thing) is not str or thing != "s":
                with self.assertRaises(NoPart):
                    count_trees(grammar, thing, 1)
                with self.assertRaises(NoPart):
                    nth_tree(grammar, thing, 1, 0)

    def test_no_such_rules(self):
        grammar = grammar_of("s=s;s=a")
        self.assertEqual((count_trees(grammar, "s", 1), count_trees(grammar, "s", 20)), (1, 1))
        for thing in things() + [0, 21, -1, 10 ** 30, "1", True]:
            if type(thing) is not int or thing not in range(1, 21):
                with self.assertRaises(NoDeed):
                    count_trees(grammar, "s", thing)
                with self.assertRaises(NoDeed):
                    nth_tree(grammar, "s", thing, 0)

    def test_no_such_number(self):
        grammar = grammar_of("s=a;s=b;s=c t;t=")
        for thing in things() + [2, 3, -1, 10 ** 30, "0"]:
            if type(thing) is not int or thing not in (0, 1):
                with self.assertRaises(NoDeed):
                    nth_tree(grammar, "s", 1, thing)
        with self.assertRaises(NoDeed):
            nth_tree(grammar, "s", 2, 1)
        with self.assertRaises(NoDeed):
            nth_tree(grammar, "s", 3, 0)

    def test_no_tree(self):
        grammar = Grammar(chain_rules(30))
        top = ("w",)
        for rules in range(1, 31):
            tree = (30 - rules, (top if rules > 1 else "w",)) if rules == 1 else (30 - rules, (tree,))
            if rules <= 20:
                self.assertEqual(place_of(grammar, tree), 0)
            else:
                self.assertIs(is_tree(grammar, tree), True)
                with self.assertRaises(NoTree):
                    place_of(grammar, tree)
        for thing in things() + ["w", "qa", (29, ("a",)), (0, ("w",)), [29, ("w",)], (29, ["w"]), (True, ("w",)),
                                 nested(21), (30, ())]:
            with self.assertRaises(NoTree):
                place_of(grammar, thing)


if __name__ == "__main__":
    unittest.main()
