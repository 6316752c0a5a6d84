"""First trees, and whether the texts never end, [10.1]."""

import unittest

from paperreader.errors import NoPart, TooMany
from paperreader.firsts import endless, first_tree
from paperreader.grammars import Grammar
from paperreader.looking import fruitful, trimmed
from paperreader.trees import row_of, rules_in
from tests.looks import (
    chain_rules, chances, grammar_of, inner_trees, is_tree_of, name_of, order_of, random_grammar, start_trees, things,
    tree_within, trees_by_size, words_in,
)
from tests.textlooks import rows_by_part


def first_by_order(trees):
    """The first in order of all that have a row of fewest words."""
    return min(trees, key=lambda tree: (len(words_in(tree)), order_of(tree)), default=None)


def never_end_by_look(grammar):
    """Whether some part stands within a tree of its own with a word beside it, by going along all rules."""
    rows = rows_by_part(grammar, 0)
    fruits = set(fruitful(grammar))
    live = [rule for rule in grammar.rules if all(name in fruits or name in grammar.words for name in rule[1])]
    solid = set(grammar.words)
    while True:
        more = {part for part, names in live if solid & set(names)}
        if more <= solid:
            break
        solid |= more
    steps = {
        (part, name, bool(solid & set(names[:at] + names[at + 1:])))
        for part, names in live for at, name in enumerate(names) if name in rows
    }
    reached = {grammar.rules[0][0]} & fruits
    while True:
        more = {lower for part, lower, _ in steps if part in reached}
        if more <= reached:
            break
        reached |= more
    held = {step for step in steps if step[0] in reached}
    while True:
        more = {(one, further, a or b) for one, two, a in held for other, further, b in steps if other == two}
        if more <= held:
            return any((part, part, True) in held for part in grammar.parts)
        held |= more


def shows_never_end(grammar, tree):
    """Whether in a tree a part stands within another one of its own with a longer row."""
    return any(
        grammar.rules[whole[0]][0] == grammar.rules[part[0]][0] and len(words_in(whole)) > len(words_in(part))
        for whole in inner_trees(tree) for part in inner_trees(whole)[1:]
    )


def lengths_up_to(grammar, most):
    """For each part the lengths of its rows."""
    lengths = {part: set() for part in grammar.parts}
    many = -1
    while many < sum(map(len, lengths.values())):
        many = sum(map(len, lengths.values()))
        for part, names in grammar.rules:
            sums = {0}
            for name in names:
                sums = {one + other for one in sums for other in lengths.get(name, {1}) if one + other <= most}
            lengths[part] |= sums
    return lengths


class FirstTrees(unittest.TestCase):
    def test_small_grammars(self):
        found = 0
        for chance in chances(300, "first trees"):
            grammar = random_grammar(chance, parts=chance.randint(1, 4), most_rules=7, most_names=2)
            levels = trees_by_size(grammar, 6)
            for part in grammar.parts:
                told = first_tree(grammar, part)
                self.assertEqual(told is not None, part in fruitful(grammar))
                plain = first_by_order([tree for level in levels for tree in level.get(part, [])])
                if told is not None and rules_in(told) <= 6:
                    self.assertEqual(told, plain)
                    found += 1
                elif told is not None:
                    self.assertTrue(is_tree_of(grammar, part, told))
                    self.assertTrue(plain is None or len(words_in(told)) < len(words_in(plain)))
        self.assertGreater(found, 300)

    def test_fewest_words_then_rules_then_steps(self):
        for text, tree in (
            ("s=a;s=t;t=u;u=", (1, ((2, ((3, ()),)),))), ("s=t;s=b;s=a;t=a", (1, ("b",))),
            ("s=t u;s=u t;t=a;u=v;u=;v=", (0, ((2, ("a",)), (4, ())))), ("s=s;s=a s;s=", (2, ())),
            ("s=t;s=u;t=a;u=a", (0, ((2, ("a",)),))), ("s=t t;t=b;t=a", (0, ((1, ("b",)), (1, ("b",))))),
        ):
            self.assertEqual(first_tree(grammar_of(text), "s"), tree)

    def test_each_part(self):
        grammar = grammar_of("s=s a;s=u;t=t b;t=v;u=u;v=b;v=w w w;w=")
        told = [first_tree(grammar, part) for part in "stuvw"]
        empty = (7, ())
        self.assertEqual(told, [None, (3, ((6, (empty, empty, empty)),)), None, (6, (empty,) * 3), empty])

    def test_chains(self):
        for back in (False, True):
            for many in (120, 300):
                grammar = Grammar(chain_rules(many, back))
                tree = first_tree(grammar, name_of(0))
                self.assertEqual((row_of(tree), rules_in(tree)), (("w",), many))
                self.assertTrue(is_tree_of(grammar, name_of(0), tree))
                self.assertEqual(rules_in(first_tree(grammar, name_of(many - 50))), 50)

    def test_empty_parts(self):
        rules = [(name_of(at), (name_of(at + 1),) * 2) for at in range(12)] + [(name_of(12), ())]
        tree = first_tree(Grammar(rules), name_of(0))
        self.assertEqual((row_of(tree), rules_in(tree)), ((), 8191))
        rules = [(name_of(at), (name_of(at + 1),) * 8) for at in range(6)] + [(name_of(6), ()), (name_of(0), ("a",))]
        tree = first_tree(Grammar(rules), name_of(0))
        self.assertEqual((row_of(tree), rules_in(tree)), ((), 299593))

    def test_rows_of_more_than_24_words(self):
        grammar = grammar_of(f"s={'t ' * 8};t={'u ' * 6};u={'a ' * 8}")
        self.assertEqual(row_of(first_tree(grammar, "s")), ("a",) * 384)

    def test_too_many(self):
        for names in ((), ("a",)):
            rules = [(name_of(at), (name_of(at + 1),) * 8) for at in range(250)] + [(name_of(250), names)]
            with self.assertRaises(TooMany):
                first_tree(Grammar(rules), name_of(0))
            self.assertEqual(rules_in(first_tree(Grammar(rules), name_of(247))), 585)
        self.assertEqual(first_tree(Grammar(rules + [(name_of(0), ("b",) * 8)]), name_of(0)), (251, ("b",) * 8))

    def test_no_part(self):
        grammar = grammar_of("s=t a;t=a")
        for thing in things() + ["a", "z", "", "st"]:
            if type(thing) is not str or thing not in ("s", "t"):
                with self.assertRaises(NoPart):
                    first_tree(grammar, thing)


class Endless(unittest.TestCase):
    def check(self, grammar):
        """Hold what is told against the look; whether something is told."""
        is_endless = self.is_right(grammar)
        self.assertEqual(is_endless, never_end_by_look(grammar))
        return is_endless

    def is_right(self, grammar):
        """Hold what is told against the words of the document; whether something is told."""
        told = endless(grammar)
        if told is None:
            return False
        tree, outer, inner = told
        self.assertIsInstance(told, tuple)
        self.assertTrue(type(outer) is tuple and type(inner) is tuple)
        self.assertTrue(is_tree_of(grammar, grammar.start, tree))
        self.assertEqual(inner[:len(outer)], outer)
        whole, part = tree_within(tree, outer), tree_within(tree, inner)
        self.assertEqual(grammar.rules[whole[0]][0], grammar.rules[part[0]][0])
        self.assertGreater(len(row_of(whole)), len(row_of(part)))
        return True

    def test_small_grammars(self):
        kinds = [0, 0]
        for chance in chances(600, "endless"):
            grammar = random_grammar(chance, parts=chance.randint(1, 4), words=chance.randint(1, 2), most_rules=9)
            kinds[self.check(grammar)] += 1
        self.assertGreater(min(kinds), 150)

    def test_no_smaller_tree_shows_it(self):
        found = 0
        for chance in chances(500, "endless least"):
            grammar = random_grammar(chance, parts=chance.randint(1, 4), words=1, most_rules=8, most_names=3)
            told = endless(grammar)
            for tree in start_trees(grammar, 5):
                if shows_never_end(grammar, tree):
                    self.assertEqual(rules_in(told[0]), rules_in(tree))
                    found += 1
                    break
            else:
                self.assertTrue(told is None or rules_in(told[0]) > 5)
        self.assertGreater(found, 150)

    def test_lengths_of_texts(self):
        # Where texts never end there are ever longer ones; where they end none is very long.
        for chance in chances(150, "endless texts"):
            grammar = random_grammar(chance, parts=2, words=1, most_rules=5, most_names=2)
            lengths = lengths_up_to(grammar, 24)[grammar.start]
            self.assertEqual(endless(grammar) is not None, any(length > 8 for length in lengths))

    def test_plain(self):
        for text, is_endless in (
            ("s=a s;s=", True), ("s=s a;s=b", True), ("s=s;s=a", False), ("s=s s;s=", False), ("s=s s;s=a", True),
            ("s=a;t=t a;t=a", False), ("s=s a", False), ("s=t;s=u s;t=a;u=u a", False), ("s=e s;s=a;e=", False),
            ("s=e s;s=a;e=;e=b", True), ("s=t;t=u;u=s e;u=a;e=f f;f=;f=g;g=b", True), ("s=a b c", False),
            ("s=u a s;s=a;u=u", False), ("s=", False),
        ):
            self.assertIs(self.check(grammar_of(text)), is_endless)

    def test_a_word_beside_that_is_no_first_tree(self):
        # The part beside has to have a row of a word, which neither its first nor its smallest tree has.
        grammar = grammar_of("s=s e;s=;e=f f;e=;f=g;f=;g=h b;h=")
        self.assertTrue(self.check(grammar))
        tree, outer, inner = endless(grammar)
        self.assertEqual((outer, inner, row_of(tree)), ((), (0,), ("b",)))
        grammar = grammar_of("s=s e;s=;e=;j=b;k=j;m=k;e=m;e=n;n=b")
        self.assertEqual(endless(grammar), ((0, ((1, ()), (7, ((8, ("b",)),)))), (), (0,)))

    def test_chains_with_a_ring_at_the_end_or_without(self):
        for many in (60, 120, 298):
            last = name_of(many - 1)
            for back in (False, True):
                rules = chain_rules(many, back)
                self.assertFalse(self.is_right(Grammar(rules)))
                self.assertFalse(self.is_right(Grammar(rules + [(last, (name_of(0),))])))
                for ring, size in (((last, "w"), many + 1), (("v", name_of(0)), 2 * many), ((last, last), many + 2)):
                    grammar = Grammar(rules + [(last, ring)])
                    self.assertTrue(self.is_right(grammar))
                    self.assertEqual(rules_in(endless(grammar)[0]), size)

    def test_chains_beside_rings(self):
        rules = chain_rules(60)
        self.assertFalse(self.is_right(Grammar(rules + [(name_of(30), (name_of(10),)), (name_of(59), ())])))
        self.assertTrue(self.is_right(Grammar(rules + [(name_of(30), (name_of(10), name_of(50))), (name_of(59), ())])))
        self.assertFalse(self.is_right(Grammar(rules + [(name_of(30), (name_of(31), name_of(50))), (name_of(59), ())])))

    def test_a_start_without_any_text(self):
        self.assertIsNone(endless(grammar_of("s=s a;t=t a;t=a")))
        self.assertIsNone(endless(grammar_of("s=t;t=u t;u=u a")))

    def test_same_as_of_the_trimmed_one(self):
        for chance in chances(200, "endless trimmed"):
            grammar = random_grammar(chance, parts=5, most_rules=9)
            if grammar.start in fruitful(grammar):
                self.assertEqual(endless(grammar) is None, endless(trimmed(grammar)) is None)

    def test_many_rules(self):
        names = [name_of(number) for number in range(100)]
        rules = [(names[at], tuple(names[(at + by) % 100] for by in range(1, 9))) for at in range(100)]
        rules += [(name, ()) for name in names]
        self.assertFalse(self.is_right(Grammar(rules)))
        self.assertTrue(self.is_right(Grammar(rules + [(names[50], ("w",))])))

    def test_never_too_many_where_first_trees_are_small(self):
        chain = [("e" + name_of(at), ("e" + name_of(at + 1),)) for at in range(59)] + [("e" + name_of(59), ())]
        ways = [(name_of(at), ("e" + name_of(0),) * 7 + (name_of(at + 1),)) for at in range(100)]
        rules = ways + [(name_of(at), ()) for at in range(101)] + chain
        self.assertFalse(self.is_right(Grammar(rules)))
        grammar = Grammar(rules + [(name_of(100), ("w", name_of(0)))])
        self.assertTrue(self.is_right(grammar))
        self.assertEqual(rules_in(endless(grammar)[0]), 42102)

    def test_too_many(self):
        rules = [(name_of(at), (name_of(at + 1),) * 8) for at in range(150)] + [(name_of(150), ())]
        self.assertIsNone(endless(Grammar(rules)))
        with self.assertRaises(TooMany):
            endless(Grammar(rules + [(name_of(150), (name_of(150), "w"))]))


if __name__ == "__main__":
    unittest.main()
