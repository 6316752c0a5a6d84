"""How many trees, [0.2] (b) and [5.1]."""

import unittest

from paperreader.counting import first_trees, how_many, pump, pumped
from paperreader.errors import NoDeed, NoRow, NoTree, TooMany
from paperreader.grammars import Grammar
from paperreader.looking import rings
from paperreader.trees import is_tree, rules_in, steps_of
from tests.looks import (
    chain_rules, grammar_of, is_pumpable, is_tree_of, name_of, order_of, plain_trees, samples, start_trees, things,
    tree_within, words_in,
)
from tests.test_bounds import empty_chain


def joining(readings):
    """A grammar that joins two by two, each word read in so many ways."""
    return Grammar([("s", ("s", "s"))] + [("s", (name_of(at),)) for at in range(readings)]
                   + [(name_of(at), ("w",)) for at in range(readings)])


def catalan(many):
    """In how many ways so many things are joined two by two."""
    ways = [0, 1]
    while len(ways) <= many:
        ways.append(sum(ways[at] * ways[-at] for at in range(1, len(ways))))
    return ways[many]


class Looks(unittest.TestCase):
    def check_pumped(self, grammar, row, told):
        """Whether it is a tree of the row with two paths in it as [5.1] has them."""
        self.assertIsInstance(told, tuple)
        tree, outer, inner = told
        self.assertTrue(is_tree_of(grammar, grammar.start, tree))
        self.assertEqual(words_in(tree), row)
        self.assertIsInstance(outer, tuple)
        self.assertIsInstance(inner, tuple)
        self.assertTrue(len(outer) < len(inner) and inner[:len(outer)] == outer)
        whole, part = tree_within(tree, outer), tree_within(tree, inner)
        self.assertEqual(grammar.rules[whole[0]][0], grammar.rules[part[0]][0])
        self.assertEqual(words_in(whole), words_in(part))

    def check_in_order(self, grammar, row, trees):
        """Whether they are trees of the row, in order, none twice."""
        for tree in trees:
            self.assertTrue(is_tree_of(grammar, grammar.start, tree))
            self.assertEqual(words_in(tree), row)
        orders = [order_of(tree) for tree in trees]
        self.assertEqual(orders, sorted(set(orders)))


class HowMany(Looks):
    def test_plain(self):
        self.assertEqual(how_many(grammar_of("s=a"), ("a",)), 1)
        self.assertEqual(how_many(grammar_of("s=a"), ("b",)), 0)
        self.assertEqual(how_many(grammar_of("s=a"), ()), 0)
        self.assertEqual(how_many(grammar_of("s=t;s=a;t=a"), ("a",)), 2)
        self.assertIsNone(how_many(grammar_of("s=s;s=a"), ("a",)))
        self.assertEqual(how_many(grammar_of("s=s;s=a"), ("b",)), 0)

    def test_rings_beside_the_way(self):
        grammar = grammar_of("s=a;s=t b;t=t;t=a;u=u")
        self.assertEqual(how_many(grammar, ("a",)), 1)
        self.assertIsNone(how_many(grammar, ("a", "b")))
        self.assertEqual(rings(grammar), ["t", "u"])
        self.assertEqual(how_many(grammar_of("s=s s;s=a;s=t;t=t b;t=t"), ("a", "a", "a")), 2)

    def test_rings_through_empty_parts(self):
        self.assertIsNone(how_many(grammar_of("s=s s;s=a;s="), ("a",)))
        self.assertIsNone(how_many(grammar_of("s=e s e;s=a;e="), ("a",)))
        self.assertEqual(how_many(grammar_of("s=e s b;s=a;e=;e=f;f="), ("a", "b", "b")), 4)

    def test_small_grammars(self):
        seen = {True: 0, False: 0}
        for grammar, row in samples(400, "how many"):
            many = how_many(grammar, row)
            told = pumped(grammar, row)
            seen[told is None] += 1
            self.assertEqual(many is None, told is not None)
            low = [tree for tree in start_trees(grammar, 5) if words_in(tree) == row]
            if told is None:
                self.assertEqual(many, len(plain_trees(grammar, row)))
                self.assertFalse(any(is_pumpable(grammar, tree) for tree in low))
            else:
                self.check_pumped(grammar, row, told)
                sizes = [order_of(tree)[0] for tree in low if is_pumpable(grammar, tree)]
                self.assertTrue(rules_in(told[0]) == sizes[0] if sizes else rules_in(told[0]) > 5)
        self.assertTrue(min(seen.values()) > 20)

    def test_the_whole_number(self):
        for readings in (1, 2, 7, 100):
            self.assertEqual(how_many(joining(readings), ("w",) * 24), catalan(24) * readings ** 24)
            self.assertIsNone(pumped(joining(readings), ("w",) * 24))

    def test_chains(self):
        grammar = Grammar(chain_rules(60) + [(name_of(59), (name_of(59),))])
        self.assertIsNone(how_many(grammar, ("w",)))
        self.assertEqual(how_many(grammar, ("w", "w")), 0)
        self.assertEqual(how_many(Grammar(chain_rules(300)), ("w",)), 1)
        self.assertIsNone(how_many(Grammar(chain_rules(299) + [(name_of(298), (name_of(0),))]), ("w",)))

    def test_numbers_of_many_figures(self):
        rules = [(name_of(at), (name_of(at + 1),) * 2) for at in range(10)]
        grammar = Grammar(rules + [(name_of(10), ()), (name_of(10), (name_of(11),)), (name_of(11), ())])
        self.assertEqual(how_many(grammar, ()), 2 ** 1024)

    def test_more_than_can_be_counted(self):
        rules = [(name_of(at), (name_of(at + 1),) * 8) for at in range(100)]
        rules += [(name_of(100), ()), (name_of(100), (name_of(101),)), (name_of(101), ())]
        with self.assertRaises(TooMany):
            how_many(Grammar(rules), ())


class Pumped(Looks):
    def test_plain(self):
        self.assertEqual(pumped(grammar_of("s=s;s=a"), ("a",)), ((0, ((1, ("a",)),)), (), (0,)))
        self.assertIsNone(pumped(grammar_of("s=s;s=a"), ("b",)))
        self.assertIsNone(pumped(grammar_of("s=s a;s="), ("a", "a")))

    def test_paths_are_tuples(self):
        tree, outer, inner = pumped(grammar_of("s=b t c;t=e u;u=t e;u=a;e="), ("b", "a", "c"))
        self.assertEqual((outer, inner), ((1,), (1, 1, 0)))
        self.assertEqual(steps_of(tree), (0, 1, 4, 2, 1, 4, 3, 4))

    def test_chains_with_a_ring_at_the_end(self):
        grammar = Grammar(chain_rules(60) + [(name_of(59), (name_of(59),))])
        told = pumped(grammar, ("w",))
        self.check_pumped(grammar, ("w",), told)
        self.assertEqual(rules_in(told[0]), 61)
        for times in range(6):
            self.assertEqual(rules_in(pump(grammar, *told, times)), 61 + times)

    def test_a_long_ring_is_told_where_first_trees_are_small(self):
        rules = chain_rules(150)[:-1] + [(name_of(149), (name_of(0),))]
        grammar = Grammar(rules + [(name_of(at), ("w",)) for at in range(150)])
        told = pumped(grammar, ("w",))
        self.check_pumped(grammar, ("w",), told)
        self.assertEqual(rules_in(told[0]), 151)

    def test_very_large_trees_are_told_where_first_trees_are_small(self):
        ring = [(name_of(at), ("eqa",) * 4 + (name_of((at + 1) % 110),) + ("eqa",) * 3) for at in range(110)]
        grammar = Grammar([(name_of(at), ("w",)) for at in range(110)] + ring + empty_chain(60))
        tree, outer, inner = pumped(grammar, ("w",))
        self.assertEqual((outer, inner), ((), (4,) * 110))
        self.assertEqual(rules_in(tree), 1 + 110 * (1 + 7 * 60))
        self.assertEqual([rules_in(tree) for tree in first_trees(grammar, ("w",), 4)], [1, 422, 843, 1264])

    def test_the_ring_within_the_least_tree_is_taken(self):
        rules = chain_rules(250) + [(name_of(249), (name_of(0),)), (name_of(5), (name_of(5),))]
        grammar = Grammar(rules + [(name_of(9), ("w",))])
        tree, _, _ = pumped(grammar, ("w",))
        self.assertEqual(rules_in(tree), 11)


class Pump(Looks):
    def setUp(self):
        self.grammar = grammar_of("s=b t;t=e u;u=t e;u=a;e=;s=t")
        self.tree, self.outer, self.inner = pumped(self.grammar, ("b", "a"))

    def test_times(self):
        self.assertEqual(pump(self.grammar, self.tree, self.outer, self.inner, 0), self.tree)
        once = pump(self.grammar, self.tree, self.outer, self.inner, 1)
        inner = self.inner + self.inner[len(self.outer):]
        self.assertEqual(tree_within(once, self.inner), tree_within(self.tree, self.outer))
        self.assertEqual(tree_within(once, inner), tree_within(self.tree, self.inner))

    def test_again_and_again(self):
        for grammar, row in samples(300, "pump"):
            told = pumped(grammar, row)
            if told is None:
                continue
            self.assertEqual(pump(grammar, *told, 0), told[0])
            step = len(steps_of(tree_within(told[0], told[1]))) - len(steps_of(tree_within(told[0], told[2])))
            before = told[0]
            for times in range(1, 6):
                tree = pump(grammar, *told, times)
                self.assertTrue(is_tree_of(grammar, grammar.start, tree))
                self.assertEqual(words_in(tree), row)
                self.assertEqual(rules_in(tree), rules_in(told[0]) + times * step)
                # The same said otherwise: the inner one gives way to the outer one of the tree before.
                self.assertEqual(tree_within(tree, told[2]), tree_within(before, told[1]))
                before = tree

    def test_other_paths(self):
        for outer, inner in (((), ()), (self.inner, self.outer), (self.inner, self.inner), (self.outer, self.outer),
                             ((), self.inner), (self.outer, self.inner + (0,)), (self.outer, self.inner[:-1]),
                             (self.outer, self.inner + (5,)), ((0,), self.inner), (self.outer, self.inner + (1, 0)),
                             ((2,), (2, 1, 0)), ((-1,), (-1, 1, 0)), ((True,), (True, 1, 0)), (self.outer, (1, 0, 0)),
                             (list(self.outer), self.inner), (self.outer, list(self.inner)), (None, None),
                             (self.outer, None), ((10 ** 30,), self.inner), (("1",), self.inner), ("", self.inner)):
            with self.assertRaises(NoTree, msg=(outer, inner)):
                pump(self.grammar, self.tree, outer, inner, 1)

    def test_side_by_side_is_not_within(self):
        grammar = grammar_of("s=e f;e=;f=e")
        tree = (0, ((1, ()), (2, ((1, ()),))))
        for outer, inner in (((0,), (1, 0)), ((1,), (1, 0)), ((1, 0), (0,))):
            with self.assertRaises(NoTree):
                pump(grammar, tree, outer, inner, 1)

    def test_rows_must_be_the_same(self):
        grammar = grammar_of("s=s a;s=a;s=s")
        tree = (0, ((1, ("a",)), "a"))
        with self.assertRaises(NoTree):
            pump(grammar, tree, (), (0,), 1)
        self.assertEqual(pump(grammar, (2, (tree,)), (), (0,), 1), (2, ((2, (tree,)),)))

    def test_words_are_no_trees_of_parts(self):
        with self.assertRaises(NoTree):
            pump(grammar_of("s=a"), "a", (), (), 1)
        with self.assertRaises(NoTree):
            pump(grammar_of("s=a"), (0, ("a",)), (), (0,), 1)

    def test_other_trees(self):
        for thing in things():
            with self.assertRaises(NoTree):
                pump(grammar_of("s=s;s=b"), thing, (), (0,), 1)
            with self.assertRaises(NoTree):
                pump(self.grammar, self.tree, self.outer, thing, 1)
            with self.assertRaises(NoTree):
                pump(self.grammar, self.tree, thing, self.inner, 1)

    def test_trees_of_more_than_200_rules(self):
        grammar = grammar_of("s=s;s=a")
        tree = (1, ("a",))
        for _ in range(199):
            tree = (0, (tree,))
        self.assertEqual(rules_in(pump(grammar, tree, (), (0,), 5)), 205)
        self.assertEqual(rules_in(pump(grammar, tree, (), (0,) * 199, 5)), 200 + 5 * 199)
        with self.assertRaises(NoTree):
            pump(grammar, (0, (tree,)), (), (0,), 1)

    def test_no_deed(self):
        for times in (-1, 6, 100, True, False, None, "1", (1,), [1], 10 ** 40):
            with self.assertRaises(NoDeed):
                pump(self.grammar, self.tree, self.outer, self.inner, times)

    def test_no_tree_ahead_of_no_deed(self):
        with self.assertRaises(NoTree):
            pump(self.grammar, self.tree, self.inner, self.outer, 6)
        with self.assertRaises(NoTree):
            pump(self.grammar, None, self.outer, self.inner, None)


class FirstTrees(Looks):
    def test_plain(self):
        grammar = grammar_of("s=s s;s=a")
        self.assertEqual(first_trees(grammar, ("a",), 12), [(1, ("a",))])
        self.assertEqual(first_trees(grammar, (), 12), [])
        trees = first_trees(grammar, ("a",) * 3, 12)
        self.assertEqual([steps_of(tree) for tree in trees], [(0, 0, 1, 1, 1), (0, 1, 0, 1, 1)])
        self.assertEqual(len(first_trees(grammar, ("a",) * 24, 12)), 12)

    def test_small_grammars(self):
        for grammar, row in samples(300, "first trees"):
            trees = first_trees(grammar, row, 12)
            self.check_in_order(grammar, row, trees)
            low = [tree for tree in start_trees(grammar, 5) if words_in(tree) == row][:12]
            self.assertEqual(trees[:len(low)], low)
            many = how_many(grammar, row)
            if many is None:
                self.assertEqual(len(trees), 12)
            else:
                self.assertEqual(trees, sorted(plain_trees(grammar, row), key=order_of)[:12])
                self.assertEqual(len(trees), min(12, many))
            for most in (1, 2, 5, 11):
                self.assertEqual(first_trees(grammar, row, most), trees[:most])

    def test_many_trees_against_all_of_them(self):
        for text, row in (("s=s s;s=a;s=s s s", ("a",) * 6), ("s=s s;s=t;s=a;t=a;t=u;u=a", ("a",) * 3),
                          ("s=e s;s=a s;s=;e=;e=f;f=", ("a",) * 2)):
            grammar = grammar_of(text)
            low = [tree for tree in start_trees(grammar, 9) if words_in(tree) == row]
            self.assertTrue(len(low) > 12)
            self.assertEqual(first_trees(grammar, row, 12), low[:12])

    def test_words_read_in_several_ways(self):
        trees = first_trees(joining(3), ("w",) * 24, 12)
        self.check_in_order(joining(3), ("w",) * 24, trees)
        self.assertEqual(len(trees), 12)
        self.assertEqual(steps_of(trees[0])[:30], (0,) * 23 + (1, 4) + (1, 4) + (1, 4) + (1,))

    def test_chains_with_a_ring_at_the_end(self):
        grammar = Grammar(chain_rules(60) + [(name_of(59), (name_of(59),))])
        trees = first_trees(grammar, ("w",), 12)
        self.assertEqual([rules_in(tree) for tree in trees], list(range(60, 72)))
        self.check_in_order(grammar, ("w",), trees)
        self.assertTrue(all(is_tree(grammar, tree) for tree in trees))

    def test_a_long_ring(self):
        rules = chain_rules(150)[:-1] + [(name_of(149), (name_of(0),))]
        grammar = Grammar(rules + [(name_of(0), ("w",))])
        trees = first_trees(grammar, ("w",), 12)
        self.assertEqual([rules_in(tree) for tree in trees], [1 + 150 * turn for turn in range(12)])

    def test_the_list_is_the_askers(self):
        grammar = grammar_of("s=s;s=a")
        first_trees(grammar, ("a",), 2).clear()
        self.assertEqual(len(first_trees(grammar, ("a",), 2)), 2)

    def test_trees_too_large(self):
        rules = [(name_of(at), (name_of(at + 1),) * 8) for at in range(100)] + [(name_of(100), ())]
        with self.assertRaises(TooMany):
            first_trees(Grammar(rules), (), 1)
        with self.assertRaises(TooMany):
            pumped(Grammar(rules + [(name_of(0), (name_of(0),))]), ())

    def test_no_deed(self):
        for most in (0, 13, -1, 100, True, None, "1", (1,), [1], 10 ** 40):
            with self.assertRaises(NoDeed):
                first_trees(grammar_of("s=a"), ("a",), most)
            with self.assertRaises(NoDeed):
                first_trees(grammar_of("s=a"), ("b",), most)


class Rows(unittest.TestCase):
    def test_no_row_first(self):
        grammar = grammar_of("s=a")
        for thing in things() + [("a",) * 25, ["a"], ("a", 1), ("A",)]:
            if repr(thing) in ("()", "('a',)", "('s',)"):
                continue
            for call in (how_many, pumped, lambda g, row: first_trees(g, row, 0), lambda g, row: first_trees(g, row, 1)):
                with self.assertRaises(NoRow):
                    call(grammar, thing)


if __name__ == "__main__":
    unittest.main()
