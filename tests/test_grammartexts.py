"""Grammars written and read, [1.2]."""

import unittest

from paperreader.errors import NoText, TooMany
from paperreader.grammars import Grammar
from paperreader.grammartexts import read, written
from tests.looks import chain_rules, chances, random_grammar, things


class Written(unittest.TestCase):
    def test_rows(self):
        grammar = Grammar([("s", ("a", "t")), ("t", ()), ("t", ("b",))])
        self.assertEqual(written(grammar), "s = a t\nt =\nt = b\n")

    def test_read_again(self):
        for chance in chances(60, "written"):
            grammar = random_grammar(chance, most_rules=9, most_names=8)
            self.assertEqual(read(written(grammar)).rules, grammar.rules)
        grammar = Grammar(chain_rules(300))
        self.assertEqual(read(written(grammar)).rules, grammar.rules)


class Read(unittest.TestCase):
    def test_blanks(self):
        self.assertEqual(read("  s   =  a     b  ").rules, (("s", ("a", "b")),))
        self.assertEqual(read("s =   \n   t = a\n  ").rules, (("s", ()), ("t", ("a",))))

    def test_no_line_feed_at_the_end(self):
        self.assertEqual(read("s = a\ns = b").rules, (("s", ("a",)), ("s", ("b",))))

    def test_rows_passed_over(self):
        text = "\n   \n# s = x\n#\n  #more = \ns = a\n\n#=b\n"
        self.assertEqual(read(text).rules, (("s", ("a",)),))

    def test_anything_behind_the_sign(self):
        self.assertEqual(read("# !\"$&'()*+,-./09:;<=>?@AZ[]^_`{|}~\ns = a").rules, (("s", ("a",)),))

    def test_rules_told_twice(self):
        self.assertEqual(read("s = a\nt =\ns  =  a\nt = ").rules, (("s", ("a",)), ("t", ())))

    def test_many_told_twice(self):
        self.assertEqual(len(read("s = a\n" * 301).rules), 1)
        text = written(Grammar(chain_rules(300)))
        self.assertEqual(len(read(text + text).rules), 300)

    def test_eight_names(self):
        self.assertEqual(read("s = a b c d e f g abcdefgh").rules[0][1][7], "abcdefgh")

    def test_signs(self):
        rest = 20000 - len("s = a\n")
        self.assertEqual(read("s = a\n" + " " * rest).rules, (("s", ("a",)),))
        self.assertEqual(read("s = a\n" + "\n" * rest).rules, (("s", ("a",)),))


class Refused(unittest.TestCase):
    def refused(self, text, row):
        with self.assertRaises(NoText) as told:
            read(text)
        self.assertEqual(told.exception.row, row)

    def test_which_row(self):
        self.refused("s", 0)
        self.refused("s = a\nt\nu", 1)
        self.refused("s = a\n\n# t\n  \nt = = a\ns = b", 4)
        self.refused("s = a\ns = b\n= a", 2)

    def test_wrong_forms(self):
        forms = ["s", "s a", "s=a", "s= a", "s =a", "= a", "S = a", "s = A", "s = a =", "s == a", "s = #", "s = a # b",
                 "s = a1", "abcdefghi = a", "s = abcdefghi", "s = a b c d e f g h i", "s := a", "1 = a", "s = a, b"]
        for form in forms:
            self.refused(form, 0)
            self.refused("s = a\n" + form + "\nt = b\n", 1)
            self.refused("# first\n\n\ns = a\n" + form, 4)

    def test_no_rule(self):
        self.refused("", 0)
        self.refused("   ", 0)
        self.refused("\n", 1)
        self.refused("# a\n# b\n\n", 3)
        self.refused("\n" * 20000, 20000)

    def test_too_long(self):
        self.refused("s = a\n" + " " * (20001 - 6), 0)
        self.refused("s = a\nt\n" + " " * 20000, 0)
        self.refused("\n" * 20001, 0)

    def test_no_text(self):
        for thing in things():
            if not isinstance(thing, str):
                self.refused(thing, 0)
        self.refused(b"s = a", 0)
        self.refused(["s = a"], 0)

    def test_signs_of_no_text(self):
        for sign in ("\t", "\r", "\u00e4", "\x7f", "\x00", "\u2028", "\x0b"):
            self.refused("s = a\nt = b\n# " + sign, 0)
            self.refused("s = a\nt = " + sign, 0)

    def test_too_many_behind_no_text(self):
        text = "".join(f"{rule[0]} = {rule[1][0]}\n" for rule in chain_rules(301))
        with self.assertRaises(TooMany):
            read(text)
        self.refused(text + "bad\n", 301)
        self.refused("bad\n" + text, 0)


if __name__ == "__main__":
    unittest.main()
