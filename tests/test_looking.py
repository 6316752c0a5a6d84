"""Grammars looked through, [2.1] to [2.3]."""

import unittest

from paperreader.errors import NoGrammar
from paperreader.grammars import Grammar
from paperreader.looking import barren, empties, fruitful, reached, rings, trimmed
from tests.looks import chain_rules, chances, grammar_of, name_of, random_grammar, things


def steps_once(grammar, row):
    """All rows of names that come of a row by one rule at one place."""
    for at, name in enumerate(row):
        for part, names in grammar.rules:
            if part == name:
                yield row[:at] + names + row[at + 1:]


def rows_from(grammar, name, most):
    """The rows of names of at most so many that come of a name by rows no longer."""
    seen = {(name,)}
    todo = [(name,)]
    while todo:
        for row in steps_once(grammar, todo.pop()):
            if len(row) <= most and row not in seen:
                seen.add(row)
                todo.append(row)
    return seen


class Plain(unittest.TestCase):
    def test_fruitful(self):
        grammar = grammar_of("s=t u;t=a;u=u a;v=;w=v v v;x=y;y=x")
        self.assertEqual(fruitful(grammar), ["t", "v", "w"])

    def test_fruitful_by_another_rule(self):
        self.assertEqual(fruitful(grammar_of("s=s a;s=t;t=u;u=t s;u=b")), ["s", "t", "u"])

    def test_reached(self):
        grammar = grammar_of("s=t u;t=a;u=u a;v=s;w=v v v")
        self.assertEqual(reached(grammar), ["s", "t", "u"])

    def test_reached_goes_through_what_never_ends(self):
        self.assertEqual(reached(grammar_of("s=x t;v=;x=x y;y=x;t=t")), ["s", "x", "y", "t"])

    def test_the_start_is_reached(self):
        self.assertEqual(reached(grammar_of("s=a;t=s")), ["s"])

    def test_empties(self):
        grammar = grammar_of("s=t u;t=;u=t t;v=v;w=a;w=x;x=s u a;y=y;y=s")
        self.assertEqual(empties(grammar), ["s", "t", "u", "y"])

    def test_order_is_the_grammars(self):
        grammar = grammar_of("z=y x;y=;x=;a=z")
        for told in (fruitful(grammar), empties(grammar)):
            self.assertEqual(told, ["z", "y", "x", "a"])

    def test_rings(self):
        self.assertEqual(rings(grammar_of("s=t;t=u;u=s;u=a")), ["s", "t", "u"])
        self.assertEqual(rings(grammar_of("s=s a;s=a s;s=")), [])
        self.assertEqual(rings(grammar_of("s=s;t=t a;t=s")), ["s"])

    def test_rings_through_empty_parts(self):
        self.assertEqual(rings(grammar_of("s=e t e;t=e s;e=;t=a")), ["s", "t"])
        self.assertEqual(rings(grammar_of("s=e t b;t=s;e=;t=a")), [])
        self.assertEqual(rings(grammar_of("s=s s;s=")), ["s"])
        self.assertEqual(rings(grammar_of("s=s s;s=a")), [])
        self.assertEqual(rings(grammar_of("s=e f;e=s;e=;f=a")), [])
        self.assertEqual(rings(grammar_of("s=e f;e=a;f=s;e=")), ["s", "f"])

    def test_rings_of_what_never_ends(self):
        self.assertEqual(rings(grammar_of("s=s")), ["s"])
        self.assertEqual(rings(grammar_of("s=a;x=y;y=x z;z=z")), ["z"])

    def test_leading_into_a_ring_is_no_ring(self):
        self.assertEqual(rings(grammar_of("s=t;t=u;u=t;u=v;v=a")), ["t", "u"])

    def test_what_is_told_is_the_askers(self):
        grammar = grammar_of("s=s;s=")
        for look in (fruitful, reached, empties, rings):
            told = look(grammar)
            self.assertEqual(told, ["s"])
            self.assertIsInstance(told, list)
            told.clear()
            self.assertEqual(look(grammar), ["s"])


class Chains(unittest.TestCase):
    def test_told_forth_and_back(self):
        for many in (150, 300):
            for back in (False, True):
                grammar = Grammar(chain_rules(many, back))
                self.assertEqual(fruitful(grammar), list(grammar.parts))
                self.assertEqual(reached(grammar), list(grammar.parts))
                self.assertEqual(empties(grammar), [])
                self.assertEqual(rings(grammar), [])
                self.assertEqual(set(trimmed(grammar).rules), set(grammar.rules))
                self.assertEqual(len(trimmed(grammar).rules), many)

    def test_chains_that_never_end(self):
        for back in (False, True):
            rules = chain_rules(200, back)
            rules = [(part, ("qa" if names == ("w",) else names[0],)) for part, names in rules]
            grammar = Grammar(rules)
            self.assertEqual(fruitful(grammar), [])
            self.assertEqual(rings(grammar), list(grammar.parts))
            self.assertTrue(barren(grammar, list(grammar.parts)))
            with self.assertRaises(NoGrammar):
                trimmed(grammar)

    def test_empty_chains(self):
        rules = [(part, () if names == ("w",) else names * 3) for part, names in chain_rules(160, True)]
        rules.append((name_of(159), (name_of(0),)))
        grammar = Grammar(rules)
        self.assertEqual(empties(grammar), list(grammar.parts))
        self.assertEqual(rings(grammar), list(grammar.parts))


class Barren(unittest.TestCase):
    def test_plain(self):
        grammar = grammar_of("s=t;t=s a;u=b;t=u t;v=s;v=")
        self.assertIs(barren(grammar, ["s", "t"]), True)
        self.assertIs(barren(grammar, ("t", "s")), True)
        self.assertIs(barren(grammar, ["s"]), False)
        self.assertIs(barren(grammar, ["t"]), False)
        self.assertIs(barren(grammar, ["u"]), False)
        self.assertIs(barren(grammar, ["s", "t", "v"]), False)
        self.assertIs(barren(grammar, ["s", "t", "s"]), True)

    def test_of_none_it_is_so(self):
        self.assertIs(barren(grammar_of("s="), []), True)
        self.assertIs(barren(grammar_of("s="), ()), True)

    def test_other_things(self):
        grammar = grammar_of("s=s a;t=t")
        told = [thing for thing in things() if barren(grammar, thing)]
        self.assertEqual(told, [[], (), ("s",)])
        for thing in things():
            self.assertIs(barren(grammar, ["s", thing]), thing == "s" if isinstance(thing, str) else False)
        for thing in (["a"], ["s", "a"], "s", {"s": 1}, {"s"}, ["S"], [["s"]], None, ["other"], iter(["s"])):
            self.assertIs(barren(grammar, thing), False)

    def test_the_list_stays(self):
        parts = ["s", "s"]
        barren(grammar_of("s=s"), parts)
        self.assertEqual(parts, ["s", "s"])

    def test_all_that_are_not_fruitful_are(self):
        for chance in chances(200, "barren"):
            grammar = random_grammar(chance, parts=5, words=1, most_rules=9)
            good = fruitful(grammar)
            self.assertTrue(barren(grammar, [part for part in grammar.parts if part not in good]))
            for part in good:
                self.assertFalse(barren(grammar, [other for other in grammar.parts if other not in good] + [part]))


class Trimmed(unittest.TestCase):
    def test_rules(self):
        grammar = grammar_of("s=t u;x=s;s=v;t=a;v=b;v=v u;u=u;s=t")
        self.assertEqual(trimmed(grammar).rules, (("s", ("v",)), ("s", ("t",)), ("t", ("a",)), ("v", ("b",))))

    def test_the_starts_first(self):
        grammar = grammar_of("s=x;t=a;s=t;u=;s=u t;x=x")
        self.assertEqual(trimmed(grammar).rules, grammar_of("s=t;s=u t;t=a;u=").rules)
        self.assertEqual(trimmed(grammar).start, "s")

    def test_reached_by_such_alone(self):
        grammar = grammar_of("s=x t;s=a;x=x;t=b;u=t")
        self.assertEqual(trimmed(grammar).rules, (("s", ("a",)),))

    def test_none(self):
        for text in ("s=s", "s=s a;t=a", "s=t;t=u;u=s t;v="):
            with self.assertRaises(NoGrammar):
                trimmed(grammar_of(text))

    def test_of_a_trimmed_one(self):
        for chance in chances(200, "trimmed"):
            grammar = random_grammar(chance, parts=5, words=1, most_rules=9)
            if grammar.start not in fruitful(grammar):
                with self.assertRaises(NoGrammar):
                    trimmed(grammar)
                continue
            small = trimmed(grammar)
            self.assertEqual(trimmed(small).rules, small.rules)
            self.assertEqual(fruitful(small), list(small.parts))
            self.assertEqual(reached(small), list(small.parts))
            self.assertEqual(small.start, grammar.start)
            self.assertTrue(set(small.rules) <= set(grammar.rules))
            self.assertTrue(set(small.words) <= set(grammar.words))

    def test_the_grammar_stays(self):
        grammar = grammar_of("s=x;s=a;x=x")
        trimmed(grammar)
        self.assertEqual(grammar.rules, grammar_of("s=x;s=a;x=x").rules)


class HeldAgainstRows(unittest.TestCase):
    """Small grammars, by all short rows that come of their parts."""

    def test_small_grammars(self):
        for chance in chances(150, "rows"):
            grammar = random_grammar(chance, parts=3, words=1, most_rules=5, most_names=2)
            rows = {part: rows_from(grammar, part, 5) for part in grammar.parts}
            words = set(grammar.words)
            made = [part for part in grammar.parts if any(set(row) <= words for row in rows[part])]
            self.assertEqual(fruitful(grammar), made)
            self.assertEqual(empties(grammar), [part for part in grammar.parts if () in rows[part]])
            seen = {name for row in rows[grammar.start] for name in row} | {grammar.start}
            self.assertEqual(reached(grammar), [part for part in grammar.parts if part in seen])

    def test_rings_of_small_grammars(self):
        for chance in chances(150, "rings"):
            grammar = random_grammar(chance, parts=4, words=1, most_rules=8, most_names=3)
            hollow = set(empties(grammar))
            pairs = set()
            for part, names in grammar.rules:
                for at, name in enumerate(names):
                    if name in grammar.parts and set(names[:at] + names[at + 1:]) <= hollow:
                        pairs.add((part, name))
            for _ in grammar.parts:
                pairs |= {(one, last) for one, two in pairs for first, last in pairs if two == first}
            self.assertEqual(rings(grammar), [part for part in grammar.parts if (part, part) in pairs])


if __name__ == "__main__":
    unittest.main()
