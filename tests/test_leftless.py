"""Grammars in which no part begins with itself, and those in which each rule begins with a word, [8.4]."""

import unittest
from itertools import permutations, product

from paperreader.changes import Change, change_by
from paperreader.errors import NoGrammar, TooMany
from paperreader.grammars import Grammar
from paperreader.leftless import leftless, stages_of, worded
from paperreader.looking import trimmed
from tests.changelooks import begins_with_itself, empty_parts, starts_first, texts_alike
from tests.looks import chain_rules, chances, grammar_of, is_tree_of, name_of, random_grammar, start_trees, words_in
from tests.textlooks import texts_up_to

SUMS = "e=e p t;e=t;t=t m f;t=f;f=o e c;f=a"
KINDS = (
    SUMS, "s=s s;s=a;s=", "s=s a;s=b", "s=t a;t=s b;s=c;t=d;t=", "s=e s a;e=;s=b;e=s", "s=t;t=u;u=s a;u=t b;u=c",
    "s=s s s;s=s a s;s=a", "s=t s;t=s t;s=a;t=b", "s=x s;s=a;x=x b;x=", "s=s;s=t;t=t;t=s;t=a", "s=a s a;s=",
    "s=t u v;t=;t=s;u=;u=v;v=;v=a u", "s=s a b c d e f g;s=a b c d e f g h", "s=e e e e;e=;e=a;e=s b", "s=a b;t=c",
)


class Both(unittest.TestCase):
    def check(self, grammar, change, is_worded):
        """All that is told of such a change."""
        self.assertIsInstance(change, Change)
        self.assertEqual(change.first.rules, grammar.rules)
        self.assertTrue(starts_first(grammar, change.second.rules))
        self.assertIs(change.is_exact, False)
        self.assertEqual(empty_parts(change.second), set())
        self.assertEqual(begins_with_itself(change.second), set())
        self.assertEqual(trimmed(change.second).rules, change.second.rules)
        if is_worded:
            self.assertTrue(all(names[:1] and names[0] in change.second.words for _, names in change.second.rules))
        texts_alike(self, change, 4, [()])

    def check_trees(self, change, most, many):
        """Trees of both grammars, carried there and back; how many."""
        for tree in start_trees(change.first, most)[:many]:
            if words_in(tree):
                there = change.there(tree)
                self.assertTrue(is_tree_of(change.second, change.second.start, there))
                self.assertEqual(words_in(there), words_in(tree))
        trees = start_trees(change.second, most)[:many]
        for tree in trees:
            back = change.back(tree)
            self.assertTrue(is_tree_of(change.first, change.first.start, back))
            self.assertEqual(words_in(back), words_in(tree))
            self.assertEqual(change.there(back), tree)
        return len(trees)

    def test_kinds(self):
        many = 0
        for text in KINDS:
            grammar = grammar_of(text)
            for is_worded in (False, True):
                change = worded(grammar) if is_worded else leftless(grammar)
                self.check(grammar, change, is_worded)
                many += self.check_trees(change, 5, 60)
        self.assertTrue(many > 300)

    def test_small_grammars(self):
        done = {"changed": 0, "none": 0}
        for chance in chances(250, "leftless"):
            parts, words = chance.randint(1, 4), chance.randint(1, 2)
            grammar = random_grammar(chance, parts, words, most_rules=7)
            if not texts_up_to(grammar, 6) - {()}:
                done["none"] += 1
                for change in (leftless, worded):
                    with self.assertRaises(NoGrammar):
                        change(grammar)
                continue
            done["changed"] += 1
            for is_worded in (False, True):
                change = worded(grammar) if is_worded else leftless(grammar)
                self.check(grammar, change, is_worded)
                self.check_trees(change, 5, 30)
        self.assertTrue(min(done.values()) > 30, done)

    def test_by_shorter_rules(self):
        # That is how large grammars are changed; it holds for small ones as well.
        for chance in chances(100, "leftless by shorter rules"):
            most = chance.choice([2, 2, 3, 4])
            grammar = random_grammar(chance, parts=3, words=2, most_rules=5, most_names=most + 2)
            if texts_up_to(grammar, 6) - {()}:
                for is_worded in (False, True):
                    try:
                        change = change_by(grammar, stages_of(grammar, most, is_worded), False)
                    except TooMany:
                        continue
                    self.check(grammar, change, is_worded)
                    self.check_trees(change, 5, 30)

    def test_by_two_names_where_there_would_be_too_many(self):
        hollow = [(part, ()) for part in "abcdefgh"] + [(part, ("x" + part,)) for part in "abcdefgh"]
        grammar = Grammar([("s", tuple("abcdefgh")), ("s", tuple("hgfedcba"))] + hollow)
        for is_worded in (False, True):
            change = worded(grammar) if is_worded else leftless(grammar)
            self.assertTrue(len(change.second.rules) <= 300)
            self.assertEqual(begins_with_itself(change.second), set())
            row = ("xa", "xd", "xh")
            tree = (0, tuple((2 + 8 * ("x" + part in row) + at, ("x" + part,) if "x" + part in row else ())
                             for at, part in enumerate("abcdefgh")))
            self.assertEqual(words_in(change.there(tree)), row)
            self.assertEqual(change.back(change.there(tree)), tree)

    def test_names_of_eight(self):
        grammar = grammar_of("s=s a b c d e f g;s=a b c d e f g h;s=t s t s t s t s;t=i")
        for is_worded in (False, True):
            self.check(grammar, worded(grammar) if is_worded else leftless(grammar), is_worded)
        # By rules of seven names these are few enough, by rules of two they would be too many.
        words = [("s", tuple(name_of(at * 10 + place) for place in range(8))) for at in range(45)]
        self.check(Grammar(words + [("s", ("s", "a"))]), leftless(Grammar(words + [("s", ("s", "a"))])), False)

    def test_names_that_look_like_new_ones(self):
        grammar = grammar_of("s=s x;s=y;b=s;s=b c d;d=a;d=b d;a=e;e=f g")
        for is_worded in (False, True):
            for _ in range(4):
                change = worded(grammar) if is_worded else leftless(grammar)
                self.check(grammar, change, is_worded)
                old = set(grammar.words + grammar.parts)
                new = [name for name in change.second.parts if name not in old]
                grammar = Grammar(list(grammar.rules) + [("s", (name, "x")) for name in new])

    def test_without_longer_texts(self):
        for text in ("s=", "s=s", "s=s a", "s=t t;t=;t=s", "s=t a;t=t b;u=c", "s=;s=a t;t=t", "s=e;e=;t=a"):
            for change in (leftless, worded):
                with self.assertRaises(NoGrammar):
                    change(grammar_of(text))

    def test_no_grammar_ahead_of_too_many(self):
        rules = [("s", ()), ("s", ("s", "s"))] + [("s", ("t", name_of(at))) for at in range(290)] + [("t", ("t",))]
        for change in (leftless, worded):
            with self.assertRaises(NoGrammar):
                change(Grammar(rules))
        # All parts but the last are of nothing alone, but in so many ways that there would be too many.
        names = "abcdefgh"
        rules = [("s", behind) for behind in list(permutations(names))[:270]] + [("s", ("word", "x")), ("x", ("x",))]
        rules += [(name, ()) for name in names] + [(name, (name, name)) for name in names]
        for change in (leftless, worded):
            with self.assertRaises(NoGrammar):
                change(Grammar(rules))
            with self.assertRaises(TooMany):
                change(Grammar(rules + [("a", ("word",))]))

    def test_large_grammars(self):
        names = "abcdefghijkl"
        rules = [(one, (two, three)) for one in names for two in names[:5] for three in names[5:9]]
        for change in (leftless, worded):
            with self.assertRaises(TooMany):
                change(Grammar(rules + [(name, ("x" + name,)) for name in names]))
            for back in (False, True):
                self.assertEqual(change(Grammar(chain_rules(300, back))).second.rules, (("qa", ("w",)),))


class NeverTooMany(unittest.TestCase):
    """Grammars of few small rules, all of them up to other names."""

    def grammars(self, lengths):
        """All grammars of rules with so many names."""
        many = len(lengths) + sum(lengths)
        for told in partitions(many):
            rules = []
            at = len(lengths)
            for part, length in zip(told, lengths):
                rules.append((name_of(part), tuple(name_of(name) for name in told[at:at + length])))
                at += length
            if len(set(rules)) == len(rules):
                yield Grammar(rules)

    def count(self, change, grammars):
        """How many rules come of one of the grammars at most."""
        most = 0
        for grammar in grammars:
            try:
                most = max(most, len(change(grammar).second.rules))
            except NoGrammar:
                pass
        return most

    def test_worded_of_two_rules(self):
        for many in (1, 2):
            for lengths in product(range(4), repeat=many):
                self.assertTrue(self.count(worded, self.grammars(lengths)) <= 8)

    def test_leftless_of_two_rules(self):
        for many in (1, 2):
            for lengths in product(range(4), repeat=many):
                self.assertTrue(self.count(leftless, self.grammars(lengths)) <= 8)

    def test_leftless_of_three_rules(self):
        for lengths in product(range(3), repeat=3):
            if lengths[1] >= lengths[2] and sum(lengths) < 6:
                self.assertTrue(self.count(leftless, self.grammars(lengths)) <= 15)

    def test_leftless_of_some_of_three_names(self):
        for lengths, most in (((3, 3, 0), 33), ((0, 3, 3), 33)):
            at = 0
            for grammar in self.grammars(lengths):
                at += 1
                if at % 7 == 0:
                    self.assertTrue(self.count(leftless, [grammar]) <= most)

    def test_leftless_of_three_long_rules(self):
        for chance in chances(1500, "three rules"):
            names = [name_of(at) for at in range(chance.randint(1, 4))]
            rules = [(chance.choice(names[:3]), tuple(chance.choice(names) for _ in range(3))) for _ in range(3)]
            if len(set(rules)) == 3:
                self.count(leftless, [Grammar(rules)])


def partitions(many):
    """All ways to name so many things alike or not, each name told at first behind all lower ones."""
    told = [()]
    for _ in range(many):
        told = [names + (name,) for names in told for name in range(max(names, default=-1) + 2)]
    return told


if __name__ == "__main__":
    unittest.main()
