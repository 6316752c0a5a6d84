"""Tolls, [11.1] and [0.2] (h)."""

import unittest

from paperreader.errors import NoRow
from paperreader.grammars import Grammar
from paperreader.looking import fruitful
from paperreader.mending import mended
from paperreader.names import is_row
from paperreader.tolls import is_fair, toll_of
from tests.looks import chain_rules, chances, grammar_of, name_of, random_grammar, random_row, things
from tests.mendlooks import is_fair_by_look, keys_by_look, least_costs_by_look
from tests.textlooks import rows_by_part


def samples(many, seed, most=4):
    """Small grammars, each with a row."""
    for chance in chances(many, seed):
        grammar = random_grammar(chance, parts=chance.randint(1, 4), words=chance.randint(1, 2))
        yield chance, grammar, random_row(chance, grammar, most)


class Told(unittest.TestCase):
    def check(self, grammar, row):
        """Hold the toll told against the words of the document; the toll."""
        toll = toll_of(grammar, row)
        self.assertIs(type(toll), dict)
        self.assertEqual(set(toll), keys_by_look(grammar, row))
        self.assertTrue(all(type(cost) is int and cost >= 0 for cost in toll.values()))
        self.assertIs(is_fair(grammar, row, toll), True)
        if grammar.start in fruitful(grammar):
            self.assertEqual(toll[(0, grammar.start, len(row))], mended(grammar, row)[0])
        else:
            self.assertEqual(toll[(0, grammar.start, len(row))], 1000)
        return toll

    def test_small_grammars(self):
        kinds = [0, 0]
        for _, grammar, row in samples(300, "tolls"):
            toll = self.check(grammar, row)
            self.assertTrue(is_fair_by_look(grammar, row, toll))
            kinds[grammar.start in fruitful(grammar)] += 1
        self.assertGreater(min(kinds), 40)

    def test_least_costs(self):
        held = 0
        for _, grammar, row in samples(150, "least tolls"):
            toll = self.check(grammar, row)
            most = 7 if len(grammar.words) < 3 else 5
            plain = least_costs_by_look(grammar, row, rows_by_part(grammar, most))
            for key, cost in plain.items():
                # Rows with more words than these cost more than that.
                if toll[key] + key[2] - key[0] <= most:
                    self.assertEqual(toll[key], cost)
                    held += 1
                else:
                    self.assertTrue(cost is None or cost >= toll[key])
        self.assertGreater(held, 1000)

    def test_plain(self):
        toll = self.check(grammar_of("s=a b"), ("a", "z"))
        self.assertEqual(toll, {
            (0, "s", 0): 2, (0, "s", 1): 1, (0, "s", 2): 1, (1, "s", 1): 2, (1, "s", 2): 2, (2, "s", 2): 2,
        })

    def test_parts_that_are_not_fruitful(self):
        self.assertEqual(self.check(grammar_of("s=s"), ()), {(0, "s", 0): 1000})
        self.check(grammar_of("s=t;t=s a;u=a;u=t"), ("a", "b"))
        self.check(grammar_of("s=a;s=t;t=t"), ("a", "b"))

    def test_costs_above_a_thousand(self):
        # Where a part that isn't fruitful is a rule of one whose mends cost more, its toll is as much at least.
        way = f"t={'u ' * 8};u={'v ' * 8};v={'x ' * 8};x={'a ' * 8}"
        for text in (f"s=t;s=y;y=y;{way}", f"y=y;s=t;s=y;{way}", f"s=a b;t=y;y=y;{way}", f"y=t y;t=y;{way}"):
            for row in ((), ("a", "a", "b")):
                self.check(grammar_of(text), row)
        self.assertEqual(toll_of(grammar_of(f"s=t;s=y;y=y;{way}"), ())[(0, "s", 0)], 4096)

    def test_numbers_that_no_text_could_be_told_for(self):
        rules = [(name_of(at), (name_of(at + 1),) * 8) for at in range(100)] + [(name_of(100), ("w",))]
        toll = toll_of(Grammar(rules), ("w", "v"))
        self.assertEqual(toll[(0, name_of(0), 2)], 8 ** 100 - 1)
        self.assertIs(is_fair(Grammar(rules), ("w", "v"), toll), True)

    def test_rows_of_24_words(self):
        self.check(grammar_of("s=o t c;s=a;t=t k s;t=s;u=u"), ("o", "a", "k") * 8)
        for back in (False, True):
            self.check(Grammar(chain_rules(100, back)), ("w", "v") * 12)

    def test_what_is_told_is_the_askers_own(self):
        grammar = grammar_of("s=a s;s=")
        toll = toll_of(grammar, ("a",))
        toll.clear()
        self.assertEqual(len(toll_of(grammar, ("a",))), 3)


class Fair(unittest.TestCase):
    def check(self, grammar, row, toll):
        """Hold the answer for what is a toll against the look; the answer."""
        copy = dict(toll)
        told = is_fair(grammar, row, toll)
        self.assertIs(told, is_fair_by_look(grammar, row, toll))
        self.assertEqual(toll, copy)
        return told

    def test_one_number_more_or_less(self):
        kinds = [0, 0]
        for chance, grammar, row in samples(150, "one more", 3):
            toll = toll_of(grammar, row)
            for key in chance.sample(sorted(toll), min(len(toll), 6)):
                for by in (1, -1, 1000):
                    if toll[key] + by >= 0:
                        kinds[self.check(grammar, row, {**toll, key: toll[key] + by})] += 1
        self.assertGreater(min(kinds), 300)

    def test_tolls_of_any_numbers(self):
        kinds = [0, 0]
        for chance, grammar, row in samples(300, "any tolls", 2):
            most = chance.randint(1, 3)
            toll = {key: chance.randint(0, most) for key in keys_by_look(grammar, row)}
            kinds[self.check(grammar, row, toll)] += 1
            least = toll_of(grammar, row)
            toll = {key: min(toll[key], least[key]) for key in toll}
            kinds[self.check(grammar, row, toll)] += 1
        self.assertGreater(min(kinds), 50)

    def test_noughts(self):
        for _, grammar, row in samples(60, "noughts"):
            self.assertIs(is_fair(grammar, row, {key: 0 for key in keys_by_look(grammar, row)}), True)

    def test_the_same_number_everywhere(self):
        for _, grammar, row in samples(100, "same numbers"):
            for cost in (1, 2, 5):
                self.check(grammar, row, {key: cost for key in keys_by_look(grammar, row)})

    def test_rules_of_no_names_cost_the_words(self):
        grammar = grammar_of("s=;t=s")
        toll = {(i, part, j): j - i for i in range(4) for part in "st" for j in range(i, 4)}
        self.assertIs(is_fair(grammar, ("a",) * 3, toll), True)
        for key in toll:
            self.assertIs(is_fair(grammar, ("a",) * 3, {**toll, key: toll[key] + 1}), False)

    def test_words(self):
        grammar = grammar_of("s=a")
        row = ("a", "b", "a")
        costs = {(0, 0): 1, (0, 1): 0, (0, 2): 1, (0, 3): 2, (1, 1): 1, (1, 2): 1, (1, 3): 1, (2, 2): 1, (2, 3): 0,
                 (3, 3): 1}
        toll = {(i, "s", j): cost for (i, j), cost in costs.items()}
        self.assertEqual(toll_of(grammar, row), toll)
        for key in toll:
            self.assertIs(is_fair(grammar, row, {**toll, key: toll[key] + 1}), False)

    def test_a_part_in_the_row_is_no_word(self):
        grammar = grammar_of("s=t;t=a")
        toll = toll_of(grammar, ("t",))
        self.assertEqual(toll[(0, "s", 1)], 1)
        self.assertIs(is_fair(grammar, ("t",), {**toll, (0, "t", 1): 0, (0, "s", 1): 0}), True)
        self.assertIs(is_fair(grammar, ("t",), {**toll, (0, "s", 1): 2}), False)

    def test_great_numbers(self):
        grammar = grammar_of("s=s")
        self.assertIs(is_fair(grammar, (), {(0, "s", 0): 10 ** 60}), True)
        self.assertIs(is_fair(grammar_of("s=s;s=a"), (), {(0, "s", 0): 10 ** 60}), False)


class NoTolls(unittest.TestCase):
    def setUp(self):
        self.grammar = grammar_of("s=a t;t=b")
        self.row = ("a",)
        self.toll = {key: 0 for key in keys_by_look(self.grammar, self.row)}

    def test_keys_less_and_more(self):
        self.assertIs(is_fair(self.grammar, self.row, self.toll), True)
        for key in self.toll:
            less = {other: 0 for other in self.toll if other != key}
            self.assertIs(is_fair(self.grammar, self.row, less), False)
            for wrong in ((1, "s", 0), (0, "s", 2), (2, "s", 2), (-1, "s", 0), (0, "a", 1), (0, "u", 0), (0, "s"),
                          (0, "s", 0, 0), ("s", 0, 0), "s", 0, None, (), (0, None, 0), (0, ("s",), 0), b"s"):
                self.assertIs(is_fair(self.grammar, self.row, {**less, wrong: 0}), False)
                self.assertIs(is_fair(self.grammar, self.row, {**self.toll, wrong: 0}), False)

    def test_true_and_false_are_no_numbers(self):
        for key in self.toll:
            for flag in (True, False):
                self.assertIs(is_fair(self.grammar, self.row, {**self.toll, key: flag}), False)
            i, part, j = key
            less = {other: 0 for other in self.toll if other != key}
            self.assertIs(is_fair(self.grammar, self.row, {**less, (bool(i), part, j): 0}), False)
            self.assertIs(is_fair(self.grammar, self.row, {**less, (i, part, bool(j)): 0}), False)

    def test_numbers_below_nought_and_other_kinds(self):
        for key in self.toll:
            for wrong in [-1, -10 ** 30, "0", None, (0,), [0]] + things():
                if type(wrong) is not int or wrong < 0:
                    self.assertIs(is_fair(self.grammar, self.row, {**self.toll, key: wrong}), False)

    def test_things_of_any_kind(self):
        told = [self.toll.items(), list(self.toll.items()), list(self.toll), tuple(self.toll), [self.toll]]
        for thing in things() + told:
            self.assertIs(is_fair(self.grammar, self.row, thing), False)

    def test_no_row_first(self):
        for thing in things() + [("a",) * 25, ["a"], ("A",), ("a", 1)]:
            if not is_row(thing):
                for toll in (self.toll, None):
                    with self.assertRaises(NoRow):
                        is_fair(self.grammar, thing, toll)
                with self.assertRaises(NoRow):
                    toll_of(self.grammar, thing)


if __name__ == "__main__":
    unittest.main()
