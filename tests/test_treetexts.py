"""Trees written and read, [3.3]."""

import unittest

from paperreader.errors import NoTree
from paperreader.grammars import Grammar
from paperreader.trees import is_tree, rules_in
from paperreader.treetexts import read_tree, tree_text
from tests.looks import chain_rules, chances, grammar_of, random_grammar, start_trees, things
from tests.test_trees import LISP, side_by_side, within

SIGNS = "0129 ()abs\n\t+-,x"


class Written(unittest.TestCase):
    def test_plain(self):
        self.assertEqual(tree_text("word"), "word")
        self.assertEqual(tree_text((7, ())), "7()")
        self.assertEqual(tree_text((1, ("a",))), "1(a)")
        self.assertEqual(tree_text((10, ("a", (2, ()), (299, ("b", "c"))))), "10(a 2() 299(b c))")

    def test_large(self):
        self.assertEqual(tree_text(within(3000)), "0(" * 2999 + "1(a" + ")" * 3000)


class Read(unittest.TestCase):
    def refused(self, grammar, text):
        with self.assertRaises(NoTree):
            read_tree(grammar, text)

    def test_read_again(self):
        for chance in chances(60, "texts"):
            grammar = random_grammar(chance)
            for tree in start_trees(grammar, 5)[:40]:
                self.assertEqual(read_tree(grammar, tree_text(tree)), tree)

    def test_trees_of_other_parts_and_words(self):
        grammar = grammar_of(LISP)
        for tree in ("a", "x", (2, ()), (3, ((1, ("a",)), (2, ())))):
            self.assertEqual(read_tree(grammar, tree_text(tree)), tree)
        self.refused(grammar, "s")
        self.refused(grammar, "b")

    def test_numbers_of_one_to_three_figures(self):
        grammar = Grammar(chain_rules(300))
        for number, text in ((299, "299(w)"), (298, "298(299(w))")):
            self.assertEqual(tree_text(read_tree(grammar, text)), text)
            self.assertEqual(read_tree(grammar, text)[0], number)
        whole = "".join(f"{number}(" for number in range(101, 300)) + "w" + ")" * 199
        self.assertEqual(rules_in(read_tree(grammar, whole)), 199)
        self.assertEqual(read_tree(Grammar(chain_rules(11)), "9(10(w))"), (9, ((10, ("w",)),)))
        self.refused(grammar, "300(w)")
        self.refused(grammar, "2999(w)")

    def test_one_sign_changed(self):
        grammar = grammar_of(LISP)
        tree = (0, ((5, ("x",)), (3, ((1, ("a",)), (2, ()))), (6, ("y",))))
        text = tree_text(tree)
        self.assertEqual(text, "0(5(x) 3(1(a) 2()) 6(y))")
        for at in range(len(text) + 1):
            self.held(grammar, text[:at] + text[at + 1:], text)
            for sign in SIGNS:
                self.held(grammar, text[:at] + sign + text[at:], text)
                self.held(grammar, text[:at] + sign + text[at + 1:], text)

    def held(self, grammar, changed, text):
        """A changed text is refused, or it is the very text of a tree."""
        try:
            tree = read_tree(grammar, changed)
        except NoTree:
            self.assertNotEqual(changed, text)
        else:
            self.assertTrue(is_tree(grammar, tree))
            self.assertEqual(tree_text(tree), changed)
            self.assertEqual(changed, text)

    def test_noughts_ahead(self):
        grammar = grammar_of("s=a;s=s")
        self.assertEqual(read_tree(grammar, "1(0(a))"), (1, ((0, ("a",)),)))
        for text in ("01(0(a))", "1(00(a))", "001(0(a))", "+1(0(a))", "-0(a)", "1_0(a)", "\u0661(0(a))", "\u00b2(a)"):
            self.refused(grammar, text)

    def test_blanks(self):
        grammar = grammar_of("s=a b;s=")
        self.assertEqual(read_tree(grammar, "0(a b)"), (0, ("a", "b")))
        for text in ("0(a  b)", " 0(a b)", "0(a b) ", "0( a b)", "0(a b )", "0 (a b)", "0(a\nb)", "0(ab)", "1( )", "",
                     "0(a b)\n", " ", "1()1()", "1() 1()", "a b"):
            self.refused(grammar, text)

    def test_numbers_of_thousands_of_figures(self):
        grammar = grammar_of("s=a;s=s")
        for many in (2, 4, 4299, 4301, 20000):
            self.refused(grammar, "1" * many + "(a)")
            self.refused(grammar, "0" * many + "(a)")
            self.refused(grammar, "1(" + "9" * many + "(a))")
            self.refused(grammar, "9" * many)

    def test_thousands_of_brackets(self):
        grammar = grammar_of("s=s;s=a")
        for many in (1, 201, 5000, 100000):
            self.refused(grammar, "0(" * many)
            self.refused(grammar, "(" * many)
            self.refused(grammar, ")" * many)
            self.refused(grammar, "0(" * many + "1(a)" + ")" * (many + 1))
        self.refused(grammar, "0(" * 100000 + "1(a)" + ")" * 100000)

    def test_how_many_rules(self):
        grammar = grammar_of("s=s;s=a")
        self.assertEqual(rules_in(read_tree(grammar, tree_text(within(200)))), 200)
        self.refused(grammar, tree_text(within(201)))
        grammar = grammar_of("s=s s s s s s s s;s=")
        self.assertEqual(rules_in(read_tree(grammar, tree_text(side_by_side(193)))), 193)
        self.refused(grammar, tree_text(side_by_side(201)))

    def test_other_things(self):
        grammar = grammar_of("s=b;s=s")
        for thing in things():
            self.refused(grammar, thing)
        for thing in (b"0(b)", ["0(b)"], (0, ("b",)), ("b",)):
            self.refused(grammar, thing)


if __name__ == "__main__":
    unittest.main()
