"""Grammars, [1.1] and what [0.3] says of them."""

import unittest

from paperreader.errors import NoGrammar, TooMany
from paperreader.grammars import Grammar
from tests.looks import chain_rules, grammar_of, things


def unlike_rules(many):
    """So many unlike rules."""
    return chain_rules(many)


class Accepted(unittest.TestCase):
    def test_fields(self):
        rules = [("s", ("b", "t", "a")), ("t", ()), ("u", ("t", "c")), ("s", ("z",))]
        grammar = Grammar(rules)
        self.assertEqual(grammar.rules, tuple(rules))
        self.assertEqual(grammar.parts, ("s", "t", "u"))
        self.assertEqual(grammar.words, ("a", "b", "c", "z"))
        self.assertEqual(grammar.start, "s")
        for field in (grammar.rules, grammar.parts, grammar.words):
            self.assertIsInstance(field, tuple)

    def test_parts_stand_as_they_come_ahead_in_rules(self):
        grammar = grammar_of("s=z a;z=y;a=;y=;z=a")
        self.assertEqual(grammar.parts, ("s", "z", "a", "y"))
        self.assertEqual(grammar.words, ())

    def test_rules_of(self):
        grammar = grammar_of("s=t;t=a;s=b;t=;s=")
        self.assertEqual(grammar.rules_of("s"), [0, 2, 4])
        self.assertEqual(grammar.rules_of("t"), [1, 3])
        self.assertEqual(grammar.rules_of("a"), [])
        self.assertEqual(grammar.rules_of("none"), [])

    def test_a_tuple_for_the_list(self):
        self.assertEqual(Grammar((("s", ("a",)),)).rules, (("s", ("a",)),))

    def test_how_many_rules(self):
        for many in (1, 2, 299, 300):
            self.assertEqual(len(Grammar(unlike_rules(many)).rules), many)

    def test_how_many_names(self):
        for many in (0, 1, 8):
            self.assertEqual(Grammar([("s", ("a",) * many)]).rules[0], ("s", ("a",) * many))

    def test_long_names(self):
        self.assertEqual(Grammar([("abcdefgh", ("hgfedcba",))]).words, ("hgfedcba",))


class Kept(unittest.TestCase):
    def test_the_list_may_be_changed_behind(self):
        rules = [("s", ("a",)), ("s", ("t",)), ("t", ())]
        grammar = Grammar(rules)
        rules.clear()
        self.assertEqual(grammar.rules, (("s", ("a",)), ("s", ("t",)), ("t", ())))
        self.assertEqual(grammar.rules_of("s"), [0, 1])
        self.assertEqual((grammar.parts, grammar.words, grammar.start), (("s", "t"), ("a",), "s"))

    def test_the_list_stays_as_it_is(self):
        rules = [("s", ("b", "a")), ("s", ("t",)), ("t", ())]
        copy = list(rules)
        Grammar(rules)
        self.assertEqual(rules, copy)

    def test_what_is_told_is_the_askers(self):
        grammar = grammar_of("s=a;s=b")
        told = grammar.rules_of("s")
        told.append(7)
        self.assertEqual(grammar.rules_of("s"), [0, 1])
        none = grammar.rules_of("x")
        none.append(1)
        self.assertEqual(grammar.rules_of("x"), [])


class Refused(unittest.TestCase):
    def refused(self, rules, kind=NoGrammar):
        with self.assertRaises(kind) as told:
            Grammar(rules)
        self.assertEqual(told.exception.__class__, kind)

    def test_no_rules(self):
        self.refused([])
        self.refused(())

    def test_more_than_300(self):
        self.refused(unlike_rules(301), TooMany)
        self.refused(tuple(unlike_rules(400)), TooMany)

    def test_no_grammar_ahead_of_too_many(self):
        rules = unlike_rules(301)
        self.refused(rules + [rules[0]])
        self.refused(rules + [("s",)])
        self.refused([("S", ())] + rules)
        self.refused(unlike_rules(300) + [("q", ["a"])])

    def test_a_rule_twice(self):
        self.refused([("s", ("a",)), ("t", ()), ("s", ("a",))])
        self.refused([("s", ()), ("s", ())])

    def test_lists_in_the_place_of_tuples(self):
        self.refused([["s", ("a",)]])
        self.refused([("s", ["a"])])

    def test_wrong_names(self):
        for name in ("", "abcdefghi", "A", "a b", "a1", 1, None, ("a",), b"a", True):
            self.refused([(name, ())])
            self.refused([("s", ("a", name))])

    def test_wrong_rules(self):
        for rule in (None, 1, "sa", ("s",), ("s", (), ()), ("s", "a"), ("s", None), (), ("s", ("a",) * 9), {}, ("s", {})):
            self.refused([rule])
            self.refused([("s", ()), rule])

    def test_things_of_any_kind(self):
        for thing in things():
            if repr(thing) not in ("[('s', ())]", "(('s', ()),)"):
                self.refused(thing)
            if repr(thing) != "('a', ('b',))":
                self.refused([thing])


if __name__ == "__main__":
    unittest.main()
