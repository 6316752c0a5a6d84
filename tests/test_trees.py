"""Trees, [3.1] and [3.2]."""

import unittest

from paperreader.errors import NoTree
from paperreader.grammars import Grammar
from paperreader.trees import is_ahead, is_tree, root_of, row_of, rules_in, steps_of, tree_by
from tests.looks import chances, grammar_of, nested, order_of, random_grammar, start_trees, things, words_in

LISP = "s=o l c;s=a;l=;l=s l;t=s;o=x;c=y"


def within(many):
    """A tree of so many rules, one within another, of s=s;s=a."""
    tree = (1, ("a",))
    for _ in range(many - 1):
        tree = (0, (tree,))
    return tree


def side_by_side(many):
    """A tree of so many rules, of s=s s s s s s s s;s=: 1, 9, 17 .."""
    leaf = (1, ())
    tree = leaf
    for _ in range((many - 1) // 8):
        tree = (0, (leaf,) * 7 + (tree,))
    return tree


class IsTree(unittest.TestCase):
    def setUp(self):
        self.grammar = grammar_of(LISP)
        self.small = (0, ((5, ("x",)), (2, ()), (6, ("y",))))

    def test_trees(self):
        for tree in (self.small, (1, ("a",)), (2, ()), (3, (self.small, (2, ()))), (4, ((1, ("a",)),))):
            self.assertIs(is_tree(self.grammar, tree), True)

    def test_words(self):
        for word in ("a", "x", "y"):
            self.assertIs(is_tree(self.grammar, word), True)
        for word in ("s", "l", "b", "", "A", "xx"):
            self.assertIs(is_tree(self.grammar, word), False)

    def test_how_many_rules_within_another(self):
        grammar = grammar_of("s=s;s=a")
        for many, is_one in ((1, True), (2, True), (199, True), (200, True), (201, False), (5000, False)):
            self.assertIs(is_tree(grammar, within(many)), is_one)

    def test_how_many_rules_side_by_side(self):
        grammar = grammar_of("s=s s s s s s s s;s=;t=s t;t=s s")
        self.assertIs(is_tree(grammar, side_by_side(193)), True)
        self.assertIs(is_tree(grammar, side_by_side(201)), False)
        self.assertIs(is_tree(grammar, (3, (side_by_side(193), (1, ())))), True)
        tree = (3, (side_by_side(193), (1, ())))
        for many in range(196, 204, 2):
            self.assertEqual(rules_in(tree) + 2, many + 1)
            tree = (2, ((1, ()), tree))
            self.assertIs(is_tree(grammar, tree), many + 1 <= 200)

    def test_wrong_rules(self):
        for number in (-1, 7, 1000, 10 ** 30, True, False, None, "1", (1,), [1]):
            self.assertIs(is_tree(self.grammar, (number, ("a",))), False)
            self.assertIs(is_tree(self.grammar, (4, ((number, ("a",)),))), False)
        self.assertIs(is_tree(grammar_of("s=a;s=b"), (True, ("b",))), False)
        self.assertIs(is_tree(grammar_of("s=a;s=b"), (False, ("a",))), False)

    def test_wrong_roots(self):
        self.assertIs(is_tree(self.grammar, (4, ((2, ()),))), False)
        self.assertIs(is_tree(self.grammar, (4, ("a",))), False)
        self.assertIs(is_tree(self.grammar, (1, ("x",))), False)
        self.assertIs(is_tree(self.grammar, (1, ((1, ("a",)),))), False)

    def test_too_few_or_too_many_trees(self):
        for trees in ((), ("a", "a"), ("a", (2, ()))):
            self.assertIs(is_tree(self.grammar, (1, trees)), False)
        self.assertIs(is_tree(self.grammar, (2, ("a",))), False)
        self.assertIs(is_tree(self.grammar, (0, self.small[1][:2])), False)
        self.assertIs(is_tree(self.grammar, (0, self.small[1] + ("y",))), False)

    def test_wrong_pairs(self):
        for thing in ([1, ("a",)], (1, ["a"]), (1,), (1, ("a",), ()), (1, "a"), (1, None), (1, {"a": 1}), ("a",), ()):
            self.assertIs(is_tree(self.grammar, thing), False)
            self.assertIs(is_tree(self.grammar, (4, (thing,))), False)

    def test_things(self):
        told = [thing for thing in things() if is_tree(grammar_of("s="), thing)]
        self.assertEqual(told, [(0, ())])
        for thing in things():
            self.assertIs(is_tree(self.grammar, (4, (thing,))), False)
        self.assertIs(is_tree(grammar_of("s=s;s=a"), nested(30000)), False)


class Looks(unittest.TestCase):
    def test_plain(self):
        grammar = grammar_of(LISP)
        tree = (0, ((5, ("x",)), (3, ((1, ("a",)), (2, ()))), (6, ("y",))))
        self.assertEqual(root_of(grammar, tree), "s")
        self.assertEqual(root_of(grammar, (2, ())), "l")
        self.assertEqual(row_of(tree), ("x", "a", "y"))
        self.assertEqual(row_of((2, ())), ())
        self.assertEqual(rules_in(tree), 6)
        self.assertEqual(steps_of(tree), (0, 5, 3, 1, 2, 6))

    def test_words(self):
        grammar = grammar_of(LISP)
        self.assertEqual(root_of(grammar, "x"), "x")
        self.assertEqual(row_of("x"), ("x",))
        self.assertEqual(rules_in("x"), 0)
        self.assertEqual(steps_of("x"), ())

    def test_large_trees(self):
        grammar = grammar_of("s=s;s=a")
        self.assertEqual(rules_in(within(5000)), 5000)
        self.assertEqual(row_of(within(5000)), ("a",))
        self.assertEqual(root_of(grammar, within(5000)), "s")
        self.assertEqual(steps_of(within(3)), (0, 0, 1))

    def test_held_against_own_looks(self):
        for chance in chances(40, "looks"):
            grammar = random_grammar(chance)
            for tree in start_trees(grammar, 4)[:50]:
                self.assertEqual(row_of(tree), words_in(tree))
                self.assertEqual((rules_in(tree), steps_of(tree)), order_of(tree))
                self.assertEqual(root_of(grammar, tree), "s")
                self.assertTrue(is_tree(grammar, tree))


class TreeBy(unittest.TestCase):
    def refused(self, grammar, steps):
        with self.assertRaises(NoTree):
            tree_by(grammar, steps)

    def test_steps_give_the_tree(self):
        for chance in chances(60, "steps"):
            grammar = random_grammar(chance)
            for tree in start_trees(grammar, 5)[:60]:
                self.assertEqual(tree_by(grammar, steps_of(tree)), tree)

    def test_changed_steps(self):
        for chance in chances(60, "changed steps"):
            grammar = random_grammar(chance)
            known = {order_of(tree)[1]: tree for tree in start_trees(grammar, 5)}
            for steps in list(known)[:20]:
                changed = [steps[:-1], steps + steps, steps + steps[-1:], steps[::-1], steps[1:], (0,) + steps]
                for other in changed:
                    if other in known:
                        self.assertEqual(tree_by(grammar, other), known[other])
                    elif len(other) <= 5:
                        self.refused(grammar, other)
                self.refused(grammar, steps[:-1])
                self.refused(grammar, steps + steps)

    def test_other_parts_than_the_start(self):
        grammar = grammar_of(LISP)
        self.refused(grammar, (2,))
        self.refused(grammar, (4, 1))
        self.assertEqual(tree_by(grammar, (1,)), (1, ("a",)))

    def test_how_many(self):
        grammar = grammar_of("s=s;s=a")
        self.assertEqual(tree_by(grammar, (0,) * 199 + (1,)), within(200))
        self.refused(grammar, (0,) * 200 + (1,))
        self.refused(grammar, ())
        self.refused(grammar, (0,) * 200)

    def test_other_kinds(self):
        grammar = grammar_of("s=s;s=a")
        for steps in ([0, 1], [1], (True,), (0, True), (False, 1), (1, None), ("1",), "1", 1, None, (2,), (-1,),
                      (0, (1,)), (1, []), (10 ** 40,), {0: 1}, b"\x01"):
            self.refused(grammar, steps)
        for thing in things():
            self.refused(grammar, thing)


class InOrder(unittest.TestCase):
    def test_plain(self):
        self.assertIs(is_ahead((5, ()), (0, ((0, ()),))), True)
        self.assertIs(is_ahead((0, ((0, ()),)), (5, ())), False)
        self.assertIs(is_ahead((0, ((2, ()),)), (0, ((3, ()),))), True)
        self.assertIs(is_ahead((1, ((2, ()),)), (0, ((3, ()),))), False)
        self.assertIs(is_ahead("a", "b"), False)
        self.assertIs(is_ahead("b", "a"), False)
        self.assertIs(is_ahead("b", (0, ())), True)

    def test_all_pairs(self):
        for chance in chances(20, "pairs"):
            trees = start_trees(random_grammar(chance), 4)[:15]
            for at, one in enumerate(trees):
                for place, other in enumerate(trees):
                    self.assertIs(is_ahead(one, other), at < place)


if __name__ == "__main__":
    unittest.main()
