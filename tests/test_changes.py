"""Trees carried through changes, [0.2] (e), [8.1], and what [3.1] says of large ones."""

import unittest

from paperreader.changes import Change
from paperreader.errors import NoDeed, NoGrammar, NoTree, ReadError, TooMany
from paperreader.grammars import Grammar
from paperreader.leftless import leftless, worded
from paperreader.moves import trimming, turning, twos, unfolding
from paperreader.plainer import filled, straight
from paperreader.trees import row_of, rules_in, steps_of
from tests.looks import (
    chain_rules, chances, grammar_of, is_tree_of, name_of, random_grammar, start_trees, things, words_in,
)

SUMS = grammar_of("e=e p t;e=t;t=t m f;t=f;f=o e c;f=a")
EXACT = ("trimming", "twos", "unfolding", "turning")
WITHOUT_NOTHING = ("filled", "leftless", "worded")


def changes_of(grammar):
    """All changes of a grammar that there are, each with its kind."""
    asked = [("trimming", trimming, ()), ("twos", twos, ()), ("filled", filled, ()), ("straight", straight, ()),
             ("leftless", leftless, ()), ("worded", worded, ())]
    asked += [("turning", turning, (part,)) for part in grammar.parts]
    asked += [("unfolding", unfolding, (k, at)) for k, rule in enumerate(grammar.rules) for at in range(len(rule[1]))]
    for kind, change, arguments in asked:
        try:
            yield kind, change(grammar, *arguments)
        except ReadError:
            pass


class Carried(unittest.TestCase):
    def check(self, change, is_exact, most=5, many=40):
        """Small trees of both grammars, there and back."""
        first, second = change.first, change.second
        for tree in start_trees(first, most)[:many]:
            if is_exact or words_in(tree):
                there = change.there(tree)
                self.assertTrue(is_tree_of(second, second.start, there))
                self.assertEqual(words_in(there), words_in(tree))
                if is_exact:
                    self.assertEqual(change.back(there), tree)
        for tree in start_trees(second, most)[:many]:
            back = change.back(tree)
            self.assertTrue(is_tree_of(first, first.start, back))
            self.assertEqual(words_in(back), words_in(tree))
            self.assertEqual(change.there(back), tree)

    def test_small_trees(self):
        done = {}
        for chance in chances(120, "carried"):
            grammar = random_grammar(chance, parts=chance.randint(1, 4), words=2, most_rules=6, most_names=4)
            for kind, change in changes_of(grammar):
                done[kind] = done.get(kind, 0) + 1
                self.assertIs(change.is_exact, kind in EXACT)
                self.check(change, kind in EXACT)
        self.assertEqual(len(done), 8)
        self.assertTrue(min(done.values()) > 15, done)

    def test_the_row_of_nothing(self):
        done = {}
        for chance in chances(120, "carried nothing"):
            grammar = random_grammar(chance, parts=3, words=1, most_rules=5)
            trees = [tree for tree in start_trees(grammar, 4)[:20] if not words_in(tree)]
            for kind, change in changes_of(grammar):
                for tree in trees:
                    done[kind] = done.get(kind, 0) + 1
                    if kind in WITHOUT_NOTHING:
                        with self.assertRaises(NoTree):
                            change.there(tree)
                    else:
                        self.assertEqual(change.back(change.there(tree)), tree)
        self.assertTrue(min(done.values()) > 5 and len(done) == 7, done)

    def test_plain(self):
        tree = (0, ((1, ((3, ((5, ("a",)),)),)), "p", (2, ((3, ((5, ("a",)),)), "m", (5, ("a",))))))
        change = turning(SUMS, "e")
        names = [names for _, names in change.second.rules]
        there = change.there(tree)
        self.assertEqual([len(names[number]) for number in steps_of(there)], [2, 1, 1, 2, 3, 1, 1, 1])
        self.assertEqual(change.back(there), tree)

    def test_of_left_out_parts_the_least_trees_come_back(self):
        change = filled(grammar_of("s=t u a;t=u u;t=;u=t;u=;u=b"))
        back = change.back([tree for tree in start_trees(change.second, 1) if words_in(tree) == ("a",)][0])
        self.assertEqual(back, (0, ((2, ()), (4, ()), "a")))
        # Of two rules with the same names kept that with fewer left out.
        change = filled(grammar_of("s=e a;s=a;e="))
        self.assertEqual(change.back((0, ("a",))), (1, ("a",)))

    def test_of_rules_of_one_part_the_nearest_come_back(self):
        change = straight(grammar_of("s=t;t=u;u=v;v=a;s=v;u=s"))
        self.assertEqual(change.back((0, ("a",))), (4, ((3, ("a",)),)))
        self.assertEqual(change.there((0, ((1, ((5, ((4, ((3, ("a",)),)),)),)),))), (0, ("a",)))

    def test_the_grammars_stay(self):
        rules = SUMS.rules
        change = worded(SUMS)
        second = change.second.rules
        change.back(change.there(start_trees(SUMS, 5)[0]))
        self.assertEqual((SUMS.rules, change.first.rules, change.second.rules), (rules, rules, second))


class Refused(unittest.TestCase):
    def refused(self, carry, thing):
        with self.assertRaises(NoTree):
            carry(thing)

    def test_other_things(self):
        for kind, change in changes_of(grammar_of("s=a s;s=t;t=t a;t=b s;t=c")):
            for thing in things() + ["a", "s", (0, ("a", (4, ("c",)))), (4, ("c",)), (9, ("a",)), (1, [(4, ("c",))])]:
                self.refused(change.there, thing)
            for thing in things() + ["a", "s", (100, ("a",)), (len(change.second.rules), ()), (-1, ()), (True, ("c",))]:
                self.refused(change.back, thing)

    def test_trees_of_other_parts(self):
        grammar = grammar_of("s=t a;t=b;t=t b;s=c")
        for kind, change in changes_of(grammar):
            self.refused(change.there, (1, ("b",)))
            numbers = [k for k, rule in enumerate(change.second.rules) if rule == ("t", ("b",))]
            for number in numbers:
                self.refused(change.back, (number, ("b",)))
            self.assertTrue(numbers or kind == "leftless" or kind == "worded")

    def test_trees_of_the_other_grammar(self):
        change = trimming(grammar_of("s=x;s=a;x=x;s=b"))
        self.assertEqual(change.there((1, ("a",))), (0, ("a",)))
        self.refused(change.there, (0, ("a",)))
        self.refused(change.back, (1, ("a",)))
        self.assertEqual(change.back((1, ("b",))), (3, ("b",)))

    def test_200_rules_and_one_more(self):
        grammar = grammar_of("s=s a;s=b a;t=s")
        tree = (1, ("b", "a"))
        for _ in range(199):
            tree = (0, (tree, "a"))
        kinds = []
        for kind, change in changes_of(grammar):
            kinds.append(kind)
            there = change.there(tree)
            self.assertEqual(row_of(there), row_of(tree))
            self.refused(change.there, (0, (tree, "a")))
            if rules_in(there) == 200:
                self.assertEqual(change.back(there), tree)
        self.assertEqual(len(set(kinds)), 8)

    def test_what_has_201_rules_there_is_not_carried_back(self):
        change = twos(grammar_of("s=a b s;s=c"))
        tree = (1, ("c",))
        for _ in range(100):
            tree = (0, ("a", "b", tree))
        self.assertEqual(rules_in(change.there(tree)), 201)
        self.refused(change.back, change.there(tree))
        self.assertEqual(change.back(change.there(tree[1][2])), tree[1][2])


class Then(unittest.TestCase):
    def test_against_one_by_one(self):
        lengths = {2: 0, 3: 0, 4: 0}
        for chance in chances(80, "then"):
            grammar = random_grammar(chance, parts=3, words=2, most_rules=5)
            row = self.row_of_changes(chance, grammar, chance.randint(2, 4))
            if len(row) < 2:
                continue
            lengths[len(row)] += 1
            whole = row[0]
            for change in row[1:]:
                whole = whole.then(change)
            self.assertIsInstance(whole, Change)
            self.assertEqual(whole.first.rules, grammar.rules)
            self.assertEqual(whole.second.rules, row[-1].second.rules)
            self.assertIs(whole.is_exact, all(change.is_exact for change in row))
            self.compare(whole, row)
        self.assertTrue(min(lengths.values()) > 10, lengths)

    def row_of_changes(self, chance, grammar, many):
        """So many changes, by chance, each of the grammar to which the last one leads."""
        row = []
        for _ in range(many):
            found = [change for _, change in changes_of(grammar) if len(change.second.rules) < 40]
            if not found:
                break
            row.append(chance.choice(found))
            grammar = row[-1].second
        return row

    def compare(self, whole, row):
        """Small trees through all at once, and one by one."""
        for tree in start_trees(whole.first, 5)[:20]:
            there = tree
            try:
                for change in row:
                    there = change.there(there)
            except NoTree:
                self.assertEqual(words_in(tree), ())
                with self.assertRaises(NoTree):
                    whole.there(tree)
                continue
            self.assertEqual(whole.there(tree), there)
        for tree in start_trees(whole.second, 5)[:20]:
            back = tree
            for change in row[::-1]:
                back = change.back(back)
            self.assertEqual(whole.back(tree), back)
            self.assertEqual(whole.there(back), tree)

    def test_in_whatever_brackets(self):
        one = trimming(SUMS)
        two = twos(one.second)
        three = turning(two.second, "e")
        for whole in (one.then(two).then(three), one.then(two.then(three))):
            self.assertIs(whole.is_exact, True)
            self.assertEqual(whole.second.rules, three.second.rules)
            for tree in start_trees(SUMS, 9):
                self.assertEqual(whole.there(tree), three.there(two.there(one.there(tree))))
                self.assertEqual(whole.back(whole.there(tree)), tree)

    def test_those_put_together_carry_as_they_did(self):
        one = trimming(SUMS)
        two = filled(one.second)
        tree = start_trees(SUMS, 6)[-1]
        there = one.there(tree), two.there(one.there(tree))
        whole = one.then(two)
        self.assertEqual((one.there(tree), two.there(one.there(tree))), there)
        self.assertEqual(one.back(there[0]), tree)
        self.assertEqual((one.is_exact, two.is_exact, whole.is_exact), (True, False, False))
        self.assertEqual(one.second.rules, two.first.rules)
        self.assertEqual(whole.then(trimming(whole.second)).there(tree), there[1])

    def test_trees_between_may_have_more_rules(self):
        grammar = grammar_of("s=a b s;s=c")
        one = twos(grammar)
        whole = one.then(unfolding(one.second, 0, 1))
        tree = (1, ("c",))
        for _ in range(150):
            tree = (0, ("a", "b", tree))
        self.assertEqual(rules_in(one.there(tree)), 301)
        there = whole.there(tree)
        self.assertEqual((rules_in(there), words_in(there)), (151, words_in(tree)))
        self.assertEqual(whole.back(there), tree)

    def test_no_deed(self):
        change = trimming(grammar_of("s=a;s=b;t=a"))
        for text in ("s=a", "s=a;s=b;t=a", "s=b;s=a", "s=a;s=b;s=c", "s=a;s=c", "t=a;t=b"):
            with self.assertRaises(NoDeed):
                change.then(twos(grammar_of(text)))
        self.assertEqual(change.then(twos(grammar_of("s=a;s=b"))).second.rules, (("s", ("a",)), ("s", ("b",))))
        with self.assertRaises(NoDeed):
            twos(grammar_of("s=a b c")).then(twos(grammar_of("s=a b c")))

    def test_the_row_of_nothing_is_refused_ahead_of_all(self):
        grammar = grammar_of("s=t t;t=;t=a")
        one = twos(grammar)
        whole = one.then(filled(one.second)).then(twos(filled(one.second).second))
        with self.assertRaises(NoTree):
            whole.there((0, ((1, ()), (1, ()))))
        self.assertEqual(words_in(whole.there((0, ((1, ()), (2, ("a",)))))), ("a",))


def doubling(many):
    """A chain of empty parts, each of two of the next one."""
    names = ["e" + name_of(at) for at in range(many)]
    return [(name, (further, further)) for name, further in zip(names, names[1:])] + [(names[-1], ())]


class Large(unittest.TestCase):
    """Trees of more than 24 words, and of many rules: [3.1]."""

    def test_many_words(self):
        grammar = grammar_of("s=t t t t t t t t;t=u u u u u u u u;u=a u;u=a a a a a a a a;t=;v=u")
        tree = (0, ((1, ((3, ("a",) * 8),) * 8),) * 8)
        kinds = []
        for kind, change in changes_of(grammar):
            kinds.append(kind)
            there = change.there(tree)
            self.assertEqual(words_in(there), ("a",) * 512)
            if rules_in(there) <= 200:
                self.assertEqual(change.there(change.back(there)), there)
        self.assertTrue(len(set(kinds)) > 5, kinds)

    def test_parts_of_nothing_in_each_place(self):
        nothing = [("x", ("y",) * 7), ("y", ("z",) * 6), ("y", ("z",) * 7), ("z", ())]
        grammar = Grammar([("s", ("a", "x", "s", "x")), ("s", ("x", "a", "x"))] + nothing)
        change = filled(grammar)
        self.assertEqual(change.second.rules, (("s", ("a", "s")), ("s", ("a",))))
        tree = (1, ("a",))
        for _ in range(199):
            tree = (0, ("a", tree))
        back = change.back(tree)
        self.assertEqual((words_in(back), rules_in(back)), (("a",) * 200, 200 + 400 * 50))

    def over_many_rules(self, more):
        """A change, and a tree of 60 rules that comes of some millions, all first trees of small parts beside more."""
        names = [name_of(at) for at in range(100)]
        rules = [(one, ("x", "x", "x", "x", two, "x", "x", "x")) for one, two in zip(names, names[1:])]
        rules += [(name, ("w",)) for name in names] + [(names[-1], ("qa", "qa"))]
        rules += [("x", ("y",) * 7), ("y", ("z",) * 6), ("z", ())]
        change = filled(Grammar(rules + more))
        change = change.then(straight(change.second))
        fork = change.second.rules.index(("qa", ("qa", "qa")))
        leaf = (change.second.rules.index(("qa", ("w",))), ("w",))
        tree = leaf
        for _ in range(60):
            tree = (fork, (leaf, tree))
        return change, tree

    def test_never_too_many_where_first_trees_are_small(self):
        change, tree = self.over_many_rules([])
        back = change.back(tree)
        self.assertEqual(rules_in(back), 61 + 60 * (1 + 99 * (1 + 7 * 50)))
        self.assertEqual(row_of(back), ("w",) * 61)

    def test_too_many_where_one_is_not(self):
        chain = [("r" + part, tuple("r" + name for name in names)) for part, names in chain_rules(61)]
        change, tree = self.over_many_rules(chain)
        with self.assertRaises(TooMany):
            change.back(tree)
        with self.assertRaises(NoTree):
            change.back((tree, ()))
        self.assertEqual(row_of(change.back(tree[1][0])), ("w",))

    def test_large_trees_of_nothing(self):
        # What is left out has 2 ** 14 less 1 rules, and is told; 2 ** 80 less 1 are not.
        rules = [("s", ("a", "eqa", "s")), ("s", ("a",))]
        tree = (0, ("a", (1, ("a",))))
        back = filled(Grammar(rules + doubling(14))).back(tree)
        self.assertEqual((words_in(back), rules_in(back)), (("a", "a"), 2 + 2 ** 14 - 1))
        change = filled(Grammar(rules + doubling(80)))
        with self.assertRaises(TooMany):
            change.back(tree)
        self.assertEqual(change.back((1, ("a",))), (1, ("a",)))
        for kind in (leftless, worded):
            change = kind(Grammar(rules + doubling(80)))
            number = change.second.rules.index(("s", ("a", "s")))
            with self.assertRaises(TooMany):
                change.back((number, ("a", change.there((1, ("a",))))))

    def test_chains_of_rules_of_one_part(self):
        rules = [("s", ("s", "qa")), ("s", ("qa",))] + chain_rules(148)
        change = straight(Grammar(rules))
        number = change.second.rules.index(("s", ("s", "qa")))
        inner = change.second.rules.index(("qa", ("w",)))
        tree = (change.second.rules.index(("s", ("w",))), ("w",))
        for _ in range(99):
            tree = (number, (tree, (inner, ("w",))))
        back = change.back(tree)
        self.assertEqual((rules_in(back), len(words_in(back))), (100 + 100 * 148, 100))


if __name__ == "__main__":
    unittest.main()
