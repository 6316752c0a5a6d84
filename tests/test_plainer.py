"""Grammars without empty parts, and without rules of one part alone, [8.3]."""

import unittest

from paperreader.changes import Change
from paperreader.errors import NoDeed, NoGrammar, NoTree, TooMany
from paperreader.grammars import Grammar
from paperreader.looking import empties
from paperreader.plainer import filled, straight
from tests.changelooks import empty_parts, filled_rules, starts_first, straight_rules, texts_alike
from tests.looks import chain_rules, chances, grammar_of, name_of, random_grammar


class Plainer(unittest.TestCase):
    def check(self, grammar, change, rules):
        """A change to just these rules."""
        self.assertIsInstance(change, Change)
        self.assertEqual(change.first.rules, grammar.rules)
        self.assertEqual(sorted(change.second.rules), sorted(rules))
        self.assertTrue(starts_first(grammar, change.second.rules))
        self.assertIs(change.is_exact, False)


class Filled(Plainer):
    def test_plain(self):
        grammar = grammar_of("s=t a t;t=;t=u u;u=b;u=t")
        rules = grammar_of("s=t a t;s=a t;s=t a;s=a;t=u u;t=u;u=b;u=t").rules
        self.check(grammar, filled(grammar), rules)

    def test_small_grammars(self):
        done = {"filled": 0, "none": 0}
        for chance in chances(400, "filled"):
            parts, words = chance.randint(1, 4), chance.randint(1, 2)
            grammar = random_grammar(chance, parts, words, most_rules=7, most_names=4)
            rules = filled_rules(grammar)
            if not any(part == grammar.start for part, _ in rules):
                done["none"] += 1
                with self.assertRaises(NoGrammar):
                    filled(grammar)
                continue
            done["filled"] += 1
            change = filled(grammar)
            self.check(grammar, change, rules)
            self.assertEqual(empties(change.second), [])
            texts_alike(self, change, 4, [()])
        self.assertTrue(min(done.values()) > 30, done)

    def test_parts_left_without_rules(self):
        grammar = grammar_of("s=t a;s=u b;t=u;u=v v;v=;w=t c;w=d")
        self.check(grammar, filled(grammar), grammar_of("s=a;s=b;w=c;w=d").rules)
        grammar = grammar_of("s=t;t=s s;s=;s=v a;v=w;w=v;w=")
        self.check(grammar, filled(grammar), filled_rules(grammar))

    def test_a_part_that_is_in_a_ring_is_left_with_rules(self):
        grammar = grammar_of("s=t a;t=t;t=")
        self.check(grammar, filled(grammar), grammar_of("s=t a;s=a;t=t").rules)

    def test_what_is_not_fruitful_stays(self):
        grammar = grammar_of("s=s a;s=x e;x=x;e=;e=b")
        self.check(grammar, filled(grammar), grammar_of("s=s a;s=x e;s=x;x=x;e=b").rules)

    def test_the_starts_first(self):
        grammar = grammar_of("s=;t=a;s=t s;u=s t;s=b")
        change = filled(grammar)
        self.assertEqual(change.second.start, "s")
        self.check(grammar, change, grammar_of("s=t s;s=t;s=b;t=a;u=s t;u=t").rules)

    def test_rules_that_come_twice_are_one(self):
        grammar = grammar_of("s=e e e;s=e e;e=;e=a")
        self.check(grammar, filled(grammar), grammar_of("s=e e e;s=e e;s=e;e=a").rules)

    def test_the_row_of_nothing(self):
        change = filled(grammar_of("s=t t;t=;t=a"))
        with self.assertRaises(NoTree):
            change.there((0, ((1, ()), (1, ()))))
        self.assertEqual(change.second.rules[change.there((0, ((1, ()), (2, ("a",)))))[0]], ("s", ("t",)))

    def test_without_other_texts(self):
        for text in ("s=", "s=t t;t=;t=u;u=", "s=e;e=;t=a"):
            with self.assertRaises(NoGrammar):
                filled(grammar_of(text))

    def test_300_rules_and_a_few_more(self):
        hollow = [("s", ("t",) * 8), ("t", ()), ("t", ("x",))]
        words = [("s", (name_of(at),)) for at in range(300)]
        # Of eight like names come eight rules, and t has one.
        self.assertEqual(len(filled(Grammar(hollow + words[:291])).second.rules), 300)
        for many in (292, 293, 297):
            with self.assertRaises(TooMany):
                filled(Grammar(hollow + words[:many]))
        # Of eight unlike ones 255.
        unlike = [("s", tuple("abcdefgh"))] + [(part, ()) for part in "abcdefgh"] + [(part, ("x",)) for part in "abcdefgh"]
        self.assertEqual(len(filled(Grammar(unlike + words[:37])).second.rules), 300)
        with self.assertRaises(TooMany):
            filled(Grammar(unlike + words[:38]))

    def test_no_grammar_ahead_of_too_many(self):
        names = tuple("abcdefgh")
        rules = [("s", ())] + [("t" + part, names) for part in names] + [(part, ()) for part in names]
        with self.assertRaises(NoGrammar):
            filled(Grammar(rules + [(part, ("x",)) for part in names]))


class Straight(Plainer):
    def test_plain(self):
        grammar = grammar_of("s=t;s=a s;t=u;t=s;u=b;u=t t;v=u;w=x;x=w")
        rules = grammar_of("s=a s;s=b;s=t t;t=a s;t=b;t=t t;u=b;u=t t;v=b;v=t t").rules
        self.check(grammar, straight(grammar), rules)

    def test_small_grammars(self):
        done = {"straight": 0, "empty": 0, "none": 0}
        for chance in chances(600, "straight"):
            grammar = random_grammar(chance, parts=4, words=1, most_rules=8, most_names=2)
            if chance.random() < 0.7:
                grammar = Grammar([rule for rule in grammar.rules if rule[1]] or [("s", ())])
            rules = straight_rules(grammar)
            if empty_parts(grammar):
                done["empty"] += 1
                with self.assertRaises(NoDeed):
                    straight(grammar)
            elif not any(part == grammar.rules[0][0] for part, _ in rules):
                done["none"] += 1
                with self.assertRaises(NoGrammar):
                    straight(grammar)
            else:
                done["straight"] += 1
                change = straight(grammar)
                self.check(grammar, change, rules)
                for _, names in change.second.rules:
                    self.assertFalse(len(names) == 1 and names[0] in change.second.parts)
                texts_alike(self, change, 4)
        self.assertTrue(min(done.values()) > 20, done)

    def test_parts_left_without_rules(self):
        grammar = grammar_of("s=t;s=a;s=x b;t=x;t=t;x=x;y=x c;z=y")
        self.check(grammar, straight(grammar), grammar_of("s=a").rules)

    def test_any_empty_part(self):
        for text in ("s=a;t=", "s=;s=a", "s=t t;t=s;t=;t=a"):
            with self.assertRaises(NoDeed):
                straight(grammar_of(text))

    def test_no_deed_ahead_of_no_grammar_ahead_of_too_many(self):
        with self.assertRaises(NoDeed):
            straight(grammar_of("s=s;t="))
        words = [("u", (name_of(at),)) for at in range(200)] + [("v", ("u",))]
        with self.assertRaises(NoGrammar):
            straight(Grammar([("s", ("s",))] + words))
        with self.assertRaises(TooMany):
            straight(Grammar([("s", ("v",))] + words))

    def test_300_rules_and_a_few_more(self):
        for many, back in ((300, False), (300, True), (2, False)):
            rules = chain_rules(many, back)
            self.check(Grammar(rules), straight(Grammar(rules)), [(part, ("w",)) for part, _ in rules])
        words = [("t", (name_of(at),)) for at in range(150)]
        self.assertEqual(len(straight(Grammar([("s", ("t",))] + words)).second.rules), 300)
        for more in ([("s", ("x",))], [("u", ("t",))]):
            with self.assertRaises(TooMany):
                straight(Grammar([("s", ("t",))] + words + more))
        rules = [rule for at in range(140) for rule in ((name_of(at), (name_of(at + 1),)), (name_of(at), ("w", "w")))]
        grammar = Grammar(rules + [(name_of(140), ("w",))])
        self.assertEqual(len(straight(grammar).second.rules), 281)

    def test_many_rules_on_the_way(self):
        rules = [rule for at in range(100) for rule in (
            (name_of(at), (name_of(at + 1),)), (name_of(at), ("w", name_of(at)))
        )]
        with self.assertRaises(TooMany):
            straight(Grammar(rules + [(name_of(100), ("w",))]))


if __name__ == "__main__":
    unittest.main()
