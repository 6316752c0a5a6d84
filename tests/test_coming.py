"""What may come, [6.1] and [6.2]."""

import unittest

from paperreader.coming import goes_on, is_beginning, rest_of, wrong_at
from paperreader.errors import NoRow, TooMany
from paperreader.grammars import Grammar
from paperreader.names import is_row
from paperreader.readings import reading
from tests.looks import chain_rules, chances, grammar_of, name_of, random_grammar, things
from tests.textlooks import all_rows, beginnings_of, first_of, texts_up_to

FAR = 9


def wrong_by_texts(beginnings, texts, row):
    """Where a row goes wrong, by the beginnings of all texts."""
    if row in texts:
        return None
    for at in range(len(row)):
        if row[:at + 1] not in beginnings:
            return at
    return len(row)


class HeldAgainstTexts(unittest.TestCase):
    """Small grammars, by all their texts up to a length."""

    def is_text(self, grammar, row):
        return reading(grammar, row)[0] == "tree"

    def check_all(self, grammar, most):
        """All rows up to a length; longer rests are shown to be rests, and that no shorter one is."""
        texts = texts_up_to(grammar, FAR)
        beginnings = beginnings_of(texts)
        for row in all_rows(grammar.words + ("z", grammar.start), most):
            rest = rest_of(grammar, row)
            plain = first_of(text[len(row):] for text in texts if text[:len(row)] == row)
            if plain is None and rest is not None:
                self.assertTrue(FAR < len(row) + len(rest) <= 24 and self.is_text(grammar, row + rest))
                beginnings.update(beginnings_of([row + rest]))
            else:
                self.assertEqual(rest, plain)
        for row in all_rows(grammar.words + ("z", grammar.start), most):
            self.assertIs(is_beginning(grammar, row), row in beginnings)
            self.assertEqual(wrong_at(grammar, row), wrong_by_texts(beginnings, texts, row))
            if len(row) < most:
                nexts = tuple(word for word in grammar.words if row + (word,) in beginnings)
                self.assertEqual(goes_on(grammar, row), nexts)

    def test_small_grammars(self):
        for chance in chances(250, "coming"):
            self.check_all(random_grammar(chance, parts=chance.randint(1, 4), words=chance.randint(1, 2)), 3)

    def test_three_words(self):
        for chance in chances(60, "coming by three"):
            self.check_all(random_grammar(chance, parts=3, words=3, most_rules=9), 3)

    def test_longer_rows(self):
        for chance in chances(40, "coming from far"):
            self.check_all(random_grammar(chance, parts=3, words=1, most_rules=6), 5)

    def test_kinds(self):
        for text in (
            "s=e s a e;e=;e=s;s=", "s=s;s=t;t=s;t=a", "s=x;s=a b;x=x a", "s=s a", "s=t x;t=a;x=x", "s=", "s=e;e=f;f=",
            "s=a x b;x=y;y=x;x=c;y=", "s=t t t;t=;t=a;t=b a", "s=x a;x=x;x=", "s=a s b;s=", "s=s s;s=a;s=b",
        ):
            self.check_all(grammar_of(text), 3)


class Beginnings(unittest.TestCase):
    def test_plain(self):
        grammar = grammar_of("s=a s b;s=c;s=a a x;x=x")
        for row, is_one in (((), True), (("a",), True), (("a", "c"), True), (("b",), False), (("a", "c", "b"), True),
                            (("a", "c", "b", "b"), False), (("c", "b"), False), (("a", "a", "a"), True)):
            self.assertIs(is_beginning(grammar, row), is_one)
        self.assertEqual(goes_on(grammar, ()), ("a", "c"))
        self.assertEqual(goes_on(grammar, ("a", "c")), ("b",))
        self.assertEqual(goes_on(grammar, ("c",)), ())
        self.assertEqual(goes_on(grammar, ("c", "c")), ())
        self.assertIsNone(wrong_at(grammar, ("a", "c", "b")))
        self.assertEqual(wrong_at(grammar, ("a", "c", "c")), 2)
        self.assertEqual(wrong_at(grammar, ("a", "c")), 2)
        self.assertEqual(wrong_at(grammar, ("b", "c", "b")), 0)

    def test_without_any_text(self):
        grammar = grammar_of("s=s a;t=a")
        self.assertIs(is_beginning(grammar, ()), False)
        self.assertEqual(goes_on(grammar, ()), ())
        self.assertEqual(wrong_at(grammar, ()), 0)
        self.assertEqual(wrong_at(grammar, ("a", "a")), 0)
        self.assertIsNone(rest_of(grammar, ()))

    def test_what_is_not_fruitful_comes_of_nothing(self):
        grammar = grammar_of("s=a x;s=b;x=c x")
        self.assertIs(is_beginning(grammar, ("a",)), False)
        self.assertEqual(goes_on(grammar, ()), ("b",))
        self.assertEqual(wrong_at(grammar, ("a", "c")), 0)

    def test_words_and_parts(self):
        grammar = grammar_of("s=t a;t=b")
        for row in (("t",), ("s",), ("z",), ("t", "a"), ("b", "z")):
            self.assertIs(is_beginning(grammar, row), False)
            self.assertEqual(goes_on(grammar, row), ())
            self.assertEqual(wrong_at(grammar, row), len(row) - 1 if row[0] == "b" else 0)
            self.assertIsNone(rest_of(grammar, row))

    def test_words_of_the_whole_grammar(self):
        # A word that stands in rules of no text is none that goes on.
        self.assertEqual(goes_on(grammar_of("s=a;t=b"), ()), ("a",))
        self.assertIs(is_beginning(grammar_of("s=a;t=b"), ("b",)), False)

    def test_long_rows(self):
        grammar = grammar_of("s=a s b;s=;s=c s")
        for many in (23, 24):
            row = ("a",) * many
            self.assertIs(is_beginning(grammar, row), True)
            self.assertEqual(goes_on(grammar, row), ("a", "b", "c"))
            self.assertEqual(wrong_at(grammar, row), many)
            self.assertEqual(rest_of(grammar, row), ("b",) * many)
            row = ("c",) * (many - 1) + ("b",)
            self.assertIs(is_beginning(grammar, row), False)
            self.assertEqual(wrong_at(grammar, row), many - 1)
            row = ("c",) * many
            self.assertIsNone(wrong_at(grammar, row))
            self.assertEqual(goes_on(grammar, row), ("a", "c"))

    def test_the_end_of_24_words(self):
        grammar = grammar_of("s=" + " ".join(["t"] * 8) + ";t=a b c;t=a a a")
        row = ("a", "b", "c") * 8
        self.assertEqual(goes_on(grammar, row[:23]), ("c",))
        self.assertEqual(goes_on(grammar, row), ())
        self.assertIs(is_beginning(grammar, row), True)
        self.assertEqual(goes_on(grammar_of("s=s s;s=b;s=a"), ("a",) * 24), ("a", "b"))

    def test_told_are_tuples(self):
        told = goes_on(grammar_of("s=b;s=a;s=aa;s=c"), ())
        self.assertEqual(told, ("a", "aa", "b", "c"))
        self.assertIsInstance(rest_of(grammar_of("s=b;s=a"), ()), tuple)


class Rests(unittest.TestCase):
    def test_fewest_words_ahead_of_lesser_ones(self):
        self.assertEqual(rest_of(grammar_of("s=a a;s=z"), ()), ("z",))
        self.assertEqual(rest_of(grammar_of("s=b;s=ab;s=c"), ()), ("ab",))
        self.assertEqual(rest_of(grammar_of("s=t u;t=b;t=a;u=d;u=c;u="), ()), ("a",))

    def test_of_a_text_nothing(self):
        self.assertEqual(rest_of(grammar_of("s=a s;s="), ("a",)), ())
        self.assertEqual(rest_of(grammar_of("s="), ()), ())

    def test_the_lesser_of_two_ways(self):
        grammar = grammar_of("s=x a b;s=y a a;x=q;y=q")
        self.assertEqual(rest_of(grammar, ("q",)), ("a", "a"))
        grammar = grammar_of("s=x z;s=y a;x=q b;y=q b")
        self.assertEqual(rest_of(grammar, ("q",)), ("b", "a"))
        grammar = grammar_of("s=x c d;s=y d;s=v;x=q b;y=q b c;v=q b c c")
        self.assertEqual(rest_of(grammar, ("q",)), ("b", "c", "c"))

    def test_through_empty_parts(self):
        grammar = grammar_of("s=t e f;t=a e;e=;f=b;f=c;e=a")
        self.assertEqual(rest_of(grammar, ("a",)), ("b",))
        self.assertEqual(rest_of(grammar, ("a", "a")), ("b",))

    def test_longer_than_24_words(self):
        part = " ".join(["b"] * 7)
        self.assertEqual(rest_of(grammar_of(f"s=a s {'b ' * 6};s=c"), ("a",) * 24), ("c",) + ("b",) * 144)
        self.assertEqual(rest_of(grammar_of(f"s=a s t;s=;t={part} t;t={part}"), ("a",) * 24), ("b",) * 168)
        grammar = grammar_of("s=t t t t t t t t;t=u u u u u u u;u=b;u=a")
        self.assertEqual(rest_of(grammar, ("b",)), ("a",) * 55)
        self.assertEqual(rest_of(grammar, ("b",) * 24), ("a",) * 32)

    def test_never_too_many_where_first_trees_are_small(self):
        # Of 8 times 9 words is h, and 6 times 24 of it come: more than are told where a first tree is large.
        grammar = grammar_of("s=a s h h h h h h;s=;h=i i i i i i i i;i=b j c c c c c c;j=d d;j=c a")
        self.assertEqual(rest_of(grammar, ("a",) * 24), (("b", "c", "a") + ("c",) * 6) * 8 * 6 * 24)

    def test_chains(self):
        for back in (False, True):
            self.assertEqual(rest_of(Grammar(chain_rules(300, back)), ()), ("w",))
            self.assertIsNone(wrong_at(Grammar(chain_rules(300, back)), ("w",)))

    def test_too_long_to_be_told(self):
        rules = [(name_of(at), (name_of(at + 1),) * 8) for at in range(80)] + [(name_of(80), ("w",))]
        with self.assertRaises(TooMany):
            rest_of(Grammar(rules), ())
        grammar = Grammar(rules)
        self.assertIs(is_beginning(grammar, ("w",) * 24), True)
        self.assertEqual(goes_on(grammar, ("w",) * 24), ("w",))
        self.assertEqual(wrong_at(grammar, ("w",) * 24), 24)

    def test_many_words_where_a_first_tree_is_large(self):
        # Of 512 words and 73 rules is h: six of it are told, 24 times six are not.
        grammar = grammar_of(f"s=a s h h h h h h;s=;h={'i ' * 8};i={'j ' * 8};j={'b ' * 8}")
        self.assertEqual(rest_of(grammar, ("a",)), ("b",) * 3072)
        with self.assertRaises(TooMany):
            rest_of(grammar, ("a",) * 24)

    def test_beside_what_is_too_long(self):
        rules = [("s", ("a", "b", "c")), ("s", ("a", name_of(0)))]
        rules += [(name_of(at), (name_of(at + 1),) * 8) for at in range(80)] + [(name_of(80), ("w",))]
        self.assertEqual(rest_of(Grammar(rules), ("a",)), ("b", "c"))
        with self.assertRaises(TooMany):
            rest_of(Grammar(rules), ("a", "w"))


class Refused(unittest.TestCase):
    def test_no_row(self):
        grammar = grammar_of("s=a s;s=")
        for look in (is_beginning, goes_on, wrong_at, rest_of):
            for thing in things() + [("a",) * 25, ["a"], ("A",), ("a", 1), ("abcdefghi",)]:
                if not is_row(thing):
                    with self.assertRaises(NoRow):
                        look(grammar, thing)
            with self.assertRaises(NoRow):
                look(grammar_of("s=s"), ["a"])


if __name__ == "__main__":
    unittest.main()
