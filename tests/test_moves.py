"""Exact changes, [8.2]: trimming, rules of two, unfolding, turning."""

import unittest

from paperreader.changes import Change
from paperreader.errors import NoDeed, NoGrammar, TooMany
from paperreader.grammars import Grammar
from paperreader.looking import trimmed
from paperreader.moves import trimming, turning, twos, unfolding
from tests.changelooks import (
    names_known, starts_first, texts_alike, turned_rules, unfolded_rules, untwined_rules,
)
from tests.looks import chances, grammar_of, name_of, random_grammar, things


class Moves(unittest.TestCase):
    def check(self, grammar, change, rules):
        """A change to just these rules."""
        self.assertIsInstance(change, Change)
        self.assertEqual(change.first.rules, grammar.rules)
        self.assertEqual(sorted(change.second.rules), sorted(rules))
        self.assertTrue(starts_first(grammar, change.second.rules))
        self.assertIs(change.is_exact, True)

    def new_names(self, change):
        return sorted(names_known(change.second) - names_known(change.first))


class Trimming(Moves):
    def test_rules(self):
        grammar = grammar_of("s=t u;x=s;s=v;t=a;v=b;v=v u;u=u;s=t")
        self.check(grammar, trimming(grammar), grammar_of("s=v;s=t;t=a;v=b").rules)

    def test_small_grammars(self):
        for chance in chances(150, "trimming"):
            grammar = random_grammar(chance, parts=4, words=2, most_rules=8)
            try:
                rules = trimmed(grammar).rules
            except NoGrammar:
                with self.assertRaises(NoGrammar):
                    trimming(grammar)
                continue
            self.check(grammar, trimming(grammar), rules)
            self.assertEqual(trimming(grammar).second.rules, rules)

    def test_none(self):
        with self.assertRaises(NoGrammar):
            trimming(grammar_of("s=s a;t=a"))


class Twos(Moves):
    def test_plain(self):
        grammar = grammar_of("s=a s b t;t=;t=a;t=b b;t=c t c")
        change = twos(grammar)
        self.assertEqual(len(change.second.rules), 8)
        one, two, three = self.new_names(change)
        self.assertEqual(len({one, two, three}), 3)
        self.assertEqual(untwined_rules(grammar, change.second), set(grammar.rules))

    def test_small_grammars(self):
        for chance in chances(200, "twos"):
            grammar = random_grammar(chance, parts=3, words=2, most_rules=7, most_names=8)
            change = twos(grammar)
            self.assertEqual(untwined_rules(grammar, change.second), set(grammar.rules))
            self.check(grammar, change, change.second.rules)
            for _, names in change.second.rules:
                self.assertTrue(len(names) <= 2)
            texts_alike(self, change, 4)

    def test_of_two_names_nothing_is_parted(self):
        grammar = grammar_of("s=a t;t=;t=b b;t=c")
        self.check(grammar, twos(grammar), grammar.rules)

    def test_names_that_look_like_new_ones(self):
        for grammar in grammars_with_new_names(twos, grammar_of("s=x s y s;s=")):
            change = twos(grammar)
            self.assertEqual(untwined_rules(grammar, change.second), set(grammar.rules))
            self.assertEqual(len(self.new_names(change)), 2)

    def test_too_many(self):
        rules = [("s", tuple(name_of(at * 10 + place) for place in range(8))) for at in range(43)]
        self.assertEqual(len(twos(Grammar(rules[:42])).second.rules), 42 * 7)
        with self.assertRaises(TooMany):
            twos(Grammar(rules))
        rules = rules[:42] + [("s", (name_of(at),)) for at in range(6)]
        self.assertEqual(len(twos(Grammar(rules)).second.rules), 300)
        with self.assertRaises(TooMany):
            twos(Grammar(rules + [("s", ())]))


def grammars_with_new_names(change, grammar):
    """The grammar, and ever more like it with words and parts called as the new ones of the last one."""
    for _ in range(6):
        yield grammar
        new = sorted(names_known(change(grammar).second) - names_known(grammar))
        more = [("s", (name,)) for name in new[1:]] + [(new[0], ("x",)), ("s", ("x", new[0]))]
        grammar = Grammar(list(grammar.rules) + more)
    letters = "abcdefghijklmnopqrstuvwxyz"
    names = [first + second for first in letters[:4] for second in letters]
    yield Grammar(list(grammar.rules[:2]) + [("s", (name,)) for name in names])
    yield Grammar(list(grammar.rules[:2]) + [("s", (letter * 8,)) for letter in letters] + [("zzzzzzzz", ())])


class Unfolding(Moves):
    def test_plain(self):
        grammar = grammar_of("s=a t b;s=c;t=s t;t=;t=d")
        self.check(grammar, unfolding(grammar, 0, 1), grammar_of("s=a s t b;s=a b;s=a d b;s=c;t=s t;t=;t=d").rules)
        self.check(grammar, unfolding(grammar, 2, 0), grammar_of("s=a t b;s=c;t=a t b t;t=c t;t=;t=d").rules)

    def test_small_grammars(self):
        done = {"unfolded": 0, "refused": 0}
        for chance in chances(200, "unfolding"):
            grammar = random_grammar(chance, parts=3, words=2, most_rules=6)
            for k, (part, names) in enumerate(grammar.rules):
                for at, name in enumerate(names):
                    if name not in grammar.parts or name == part or self.is_there(grammar, k, at):
                        done["refused"] += 1
                        with self.assertRaises(NoDeed):
                            unfolding(grammar, k, at)
                    else:
                        done["unfolded"] += 1
                        self.check(grammar, unfolding(grammar, k, at), unfolded_rules(grammar, k, at))
                        texts_alike(self, unfolding(grammar, k, at), 4)
        self.assertTrue(min(done.values()) > 100)

    def is_there(self, grammar, k, at):
        part, names = grammar.rules[k]
        return any((part, names[:at] + inner + names[at + 1:]) in grammar.rules
                   for other, inner in grammar.rules if other == names[at])

    def refused(self, grammar, k, at):
        with self.assertRaises(NoDeed):
            unfolding(grammar, k, at)

    def test_no_such_rule_or_name(self):
        grammar = grammar_of("s=t a;t=b;t=")
        unfolding(grammar, 0, 0)
        for k, at in ((3, 0), (-1, 0), (0, 1), (0, 2), (0, -1), (0, -2), (1, 0), (2, 0), (300, 0), (0, 8)):
            self.refused(grammar, k, at)
        for thing in things() + [10 ** 40]:
            if not (isinstance(thing, int) and not isinstance(thing, bool) and thing == 0):
                self.refused(grammar, thing, 0)
                self.refused(grammar, 0, thing)
            self.refused(grammar, thing, thing if not isinstance(thing, int) or thing != 0 else True)

    def test_by_the_rules_own_part(self):
        self.refused(grammar_of("s=a s;s=b"), 0, 1)
        self.refused(grammar_of("s=s;s=b"), 0, 0)
        self.refused(grammar_of("s=a t;t=t b;t="), 1, 0)

    def test_to_a_rule_that_is_there(self):
        self.refused(grammar_of("s=t;s=a;t=a;t=b"), 0, 0)
        self.refused(grammar_of("s=t a;t=b;s=b a"), 0, 0)
        self.refused(grammar_of("s=t u;t=;t=a;s=u"), 0, 0)

    def test_to_the_one_that_gives_way(self):
        self.refused(grammar_of("s=t;t=t;t=a"), 0, 0)
        self.refused(grammar_of("s=t t;t=t;t=b"), 0, 1)

    def test_names_of_one_rule_twice(self):
        grammar = grammar_of("s=t t;t=a;t=b b")
        self.check(grammar, unfolding(grammar, 0, 0), grammar_of("s=a t;s=b b t;t=a;t=b b").rules)
        self.check(grammar, unfolding(grammar, 0, 1), grammar_of("s=t a;s=t b b;t=a;t=b b").rules)

    def test_too_many_names(self):
        grammar = grammar_of("s=t a b c d e f g;t=h i;t=j")
        with self.assertRaises(TooMany):
            unfolding(grammar, 0, 0)
        grammar = grammar_of("s=t a b c d e f g;t=h;t=")
        self.check(grammar, unfolding(grammar, 0, 0), unfolded_rules(grammar, 0, 0))

    def test_too_many_rules(self):
        rules = [("s", ("t",)), ("s", ("v",))] + [("t", (name_of(at),)) for at in range(149)]
        grammar = Grammar(rules + [("u", ("t",))])
        self.assertEqual(len(unfolding(grammar, 0, 0).second.rules), 300)
        with self.assertRaises(TooMany):
            unfolding(Grammar(list(grammar.rules) + [("u", ("v",))]), 0, 0)

    def test_no_deed_ahead_of_too_many(self):
        self.refused(grammar_of("s=t a b c d e f g;t=h i;t=;s=a b c d e f g"), 0, 0)

    def test_the_first_rule_of_all(self):
        grammar = grammar_of("s=t;t=a;s=b;t=c")
        change = unfolding(grammar, 0, 0)
        self.assertEqual(change.second.start, "s")
        self.check(grammar, change, unfolded_rules(grammar, 0, 0))


class Turning(Moves):
    def test_plain(self):
        grammar = grammar_of("s=s p t;s=t;t=a;s=s m t;t=s b")
        change = turning(grammar, "s")
        new, = self.new_names(change)
        rules = grammar_of(f"s=t;s=t {new};{new}=p t;{new}=p t {new};{new}=m t;{new}=m t {new};t=a;t=s b").rules
        self.check(grammar, change, rules)

    def test_small_grammars(self):
        done = {"turned": 0, "refused": 0}
        for chance in chances(400, "turning"):
            grammar = random_grammar(chance, parts=2, words=1, most_rules=7)
            for part in grammar.parts:
                begun = [names for other, names in grammar.rules if other == part and names[:1] == (part,)]
                others = [names for other, names in grammar.rules if other == part and names[:1] != (part,)]
                if not begun or not others or (part,) in begun:
                    done["refused"] += 1
                    with self.assertRaises(NoDeed):
                        turning(grammar, part)
                else:
                    done["turned"] += 1
                    change = turning(grammar, part)
                    new, = self.new_names(change)
                    self.check(grammar, change, turned_rules(grammar, part, new))
                    texts_alike(self, change, 4)
        self.assertTrue(min(done.values()) > 80)

    def test_refused(self):
        grammar = grammar_of("s=s a;s=t;t=t;t=t b;t=c;u=u a;v=a")
        turning(grammar, "s")
        for part in ("t", "u", "v", "a", "x", "", "S"):
            with self.assertRaises(NoDeed):
                turning(grammar, part)
        for thing in things():
            if not isinstance(thing, str) or thing != "s":
                with self.assertRaises(NoDeed):
                    turning(grammar, thing)
        with self.assertRaises(NoDeed):
            turning(grammar_of("s=s;s=a"), "s")
        with self.assertRaises(NoDeed):
            turning(grammar_of("s=s;s=s a b c d e f g;s=a b c d e f g h"), "s")

    def test_empty_rules_and_the_part_within(self):
        grammar = grammar_of("s=s s;s=;s=a s;s=s a s")
        change = turning(grammar, "s")
        new, = self.new_names(change)
        self.check(grammar, change, turned_rules(grammar, "s", new))

    def test_too_many_names(self):
        with self.assertRaises(TooMany):
            turning(grammar_of("s=s a;s=a b c d e f g h"), "s")
        grammar = grammar_of("s=s a b c d e f g;s=a b c d e f g")
        new, = self.new_names(turning(grammar, "s"))
        self.check(grammar, turning(grammar, "s"), turned_rules(grammar, "s", new))

    def test_too_many_rules(self):
        rules = [("s", ("s", name_of(at))) for at in range(100)] + [("s", (name_of(at),)) for at in range(50)]
        self.assertEqual(len(turning(Grammar(rules), "s").second.rules), 300)
        with self.assertRaises(TooMany):
            turning(Grammar(rules + [("t", ("w",))]), "s")

    def test_names_that_look_like_new_ones(self):
        for grammar in grammars_with_new_names(lambda grammar: turning(grammar, "s"), grammar_of("s=s x y;s=;s=x")):
            change = turning(grammar, "s")
            new, = self.new_names(change)
            self.check(grammar, change, turned_rules(grammar, "s", new))


if __name__ == "__main__":
    unittest.main()
