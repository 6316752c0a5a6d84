"""Kept rows, [12.1] and [0.2] (i)."""

import unittest

from paperreader.charts import least_chart
from paperreader.coming import wrong_at
from paperreader.errors import NoDeed, NoRow
from paperreader.grammars import Grammar
from paperreader.kept import Kept
from paperreader.names import is_name, is_row
from paperreader.readings import reading
from tests.looks import chain_rules, chances, grammar_of, least_by_points, name_of, random_grammar, random_row, things


class KeptRows(unittest.TestCase):
    def check(self, grammar, held, row, stayed):
        """Hold all that is told against the row looked at from the start."""
        self.assertEqual(held.now(), row)
        self.assertIsInstance(held.now(), tuple)
        self.assertEqual(held.chart(), least_chart(grammar, row))
        self.assertEqual(held.reading_now(), reading(grammar, row))
        self.assertEqual(held.kept(), stayed)


class Deeds(KeptRows):
    def try_deed(self, chance, held, row, words):
        """Do something by a chance; the row it is to make and the place."""
        kind = chance.choice(["put", "put", "cut", "change"] if len(row) < 7 else ["cut", "change"])
        at = chance.randint(0, len(row) - (kind != "put"))
        word = chance.choice(words)
        if kind == "put":
            self.assertIsNone(held.put(at, word))
            return row[:at] + (word,) + row[at:], at
        if kind == "cut":
            self.assertIsNone(held.cut(at))
            return row[:at] + row[at + 1:], at
        self.assertIsNone(held.change(at, word))
        return row[:at] + (word,) + row[at + 1:], at

    def run_series(self, chance, grammar, row, many):
        """Many deeds, some of them undone again, and in the end all of them."""
        words = list(grammar.words) * 2 + [grammar.start, "z"]
        held = Kept(grammar, row)
        self.check(grammar, held, row, 0)
        told = []
        for _ in range(many):
            before = held.chart()
            if told and (chance.random() < 0.3 or not row):
                row, at = told.pop()
                self.assertIsNone(held.back())
            elif row or chance.random() < 0.9:
                old = row
                if not row:
                    held.put(0, words[0])
                    row, at = (words[0],), 0
                else:
                    row, at = self.try_deed(chance, held, row, words)
                told.append((old, at))
            else:
                continue
            self.check(grammar, held, row, at + 1)
            for column, other in zip(before[:at + 1], held.chart()):
                self.assertIs(column, other)
        while told:
            row, at = told.pop()
            held.back()
            self.check(grammar, held, row, at + 1)
        with self.assertRaises(NoDeed):
            held.back()
        self.check(grammar, held, row, held.kept())

    def test_small_grammars(self):
        for chance in chances(60, "kept"):
            grammar = random_grammar(chance, parts=chance.randint(1, 4), words=chance.randint(1, 2), most_rules=9)
            self.run_series(chance, grammar, random_row(chance, grammar, 5), 40)

    def test_longer_rows(self):
        for chance in chances(6, "long kept"):
            grammar = grammar_of("s=s s;s=a;s=o s c;s=;t=s")
            row = tuple(chance.choice("aoc") for _ in range(20))
            self.run_series(chance, grammar, row, 12)

    def test_charts_by_points(self):
        for chance in chances(40, "kept by points"):
            grammar = random_grammar(chance, parts=3)
            held = Kept(grammar, ())
            row = ()
            for _ in range(4):
                at = chance.randint(0, len(row))
                word = chance.choice(grammar.words + ("z",))
                held.put(at, word)
                row = row[:at] + (word,) + row[at:]
                self.assertEqual(held.chart(), least_by_points(grammar, row))

    def test_plain(self):
        grammar = grammar_of("s=a s b;s=")
        held = Kept(grammar, ("a", "b"))
        self.assertEqual((held.now(), held.kept()), (("a", "b"), 0))
        self.assertEqual(held.reading_now(), ("tree", (0, ("a", (1, ()), "b"))))
        held.put(1, "a")
        self.assertEqual((held.now(), held.kept(), held.reading_now()[0]), (("a", "a", "b"), 2, "chart"))
        held.put(3, "b")
        self.assertEqual((held.now(), held.kept(), held.reading_now()[0]), (("a", "a", "b", "b"), 4, "tree"))
        held.change(0, "c")
        self.assertEqual((held.now(), held.kept()), (("c", "a", "b", "b"), 1))
        held.cut(3)
        self.assertEqual((held.now(), held.kept()), (("c", "a", "b"), 4))
        held.back()
        self.assertEqual((held.now(), held.kept()), (("c", "a", "b", "b"), 4))
        held.back()
        self.assertEqual((held.now(), held.kept()), (("a", "a", "b", "b"), 1))
        held.put(4, "b")
        held.back()
        held.back()
        self.assertEqual((held.now(), held.kept()), (("a", "a", "b"), 4))
        held.back()
        self.assertEqual((held.now(), held.kept()), (("a", "b"), 2))
        with self.assertRaises(NoDeed):
            held.back()
        self.assertEqual((held.now(), held.kept()), (("a", "b"), 2))

    def test_words_that_stay_the_same(self):
        held = Kept(grammar_of("s=a a"), ("a", "a"))
        held.change(1, "a")
        self.assertEqual((held.now(), held.kept()), (("a", "a"), 2))
        held.back()
        self.assertEqual((held.now(), held.kept()), (("a", "a"), 2))
        with self.assertRaises(NoDeed):
            held.back()

    def test_two_kept_rows_of_one_grammar(self):
        grammar = grammar_of("s=a s;s=")
        one, other = Kept(grammar, ("a",)), Kept(grammar, ("a",))
        one.put(1, "b")
        self.check(grammar, one, ("a", "b"), 2)
        self.check(grammar, other, ("a",), 0)

    def test_what_is_told_is_the_askers_own(self):
        grammar = grammar_of("s=a s;s=")
        held = Kept(grammar, ("a", "a"))
        before = (held.now(), held.chart(), held.reading_now())
        held.cut(0)
        held.put(1, "b")
        self.assertEqual(before, (("a", "a"), least_chart(grammar, ("a", "a")), reading(grammar, ("a", "a"))))

    def test_chains(self):
        grammar = Grammar(chain_rules(150))
        held = Kept(grammar, ())
        held.put(0, "w")
        self.check(grammar, held, ("w",), 1)
        held.put(1, "w")
        self.check(grammar, held, ("w", "w"), 2)
        self.assertEqual(wrong_at(grammar, held.now()), 1)
        held.change(0, name_of(0))
        self.check(grammar, held, (name_of(0), "w"), 1)


class Refused(KeptRows):
    def refused(self, held, *deeds):
        """None of these deeds can be done, and nothing is changed."""
        before = (held.now(), held.chart(), held.reading_now(), held.kept())
        for deed in deeds:
            with self.assertRaises(NoDeed):
                deed()
            self.assertEqual((held.now(), held.chart(), held.reading_now(), held.kept()), before)

    def test_places_that_are_not_there(self):
        held = Kept(grammar_of("s=a s;s="), ("a", "a"))
        for at in things() + [-1, 2, 3, 10 ** 30, True, "0"]:
            if type(at) is not int or at not in (0, 1):
                self.refused(held, lambda: held.cut(at), lambda: held.change(at, "a"))
            if type(at) is not int or at not in (0, 1, 2):
                self.refused(held, lambda: held.put(at, "a"))
        held = Kept(grammar_of("s=a s;s="), ())
        self.refused(held, lambda: held.cut(0), lambda: held.change(0, "a"), lambda: held.put(1, "a"))

    def test_words_that_are_no_names(self):
        held = Kept(grammar_of("s=a s;s="), ("a",))
        held.put(1, "a")
        for word in things() + ["", "A", "abcdefghi", "a b", None, ("a",)]:
            if not is_name(word):
                self.refused(held, lambda: held.put(0, word), lambda: held.change(0, word))

    def test_rows_of_23_and_24_words(self):
        grammar = grammar_of("s=a s;s=")
        held = Kept(grammar, ("a",) * 23)
        self.check(grammar, held, ("a",) * 23, 0)
        held.put(23, "a")
        self.check(grammar, held, ("a",) * 24, 24)
        self.refused(held, lambda: held.put(0, "a"), lambda: held.put(24, "a"), lambda: held.cut(24))
        held.change(23, "b")
        self.check(grammar, held, ("a",) * 23 + ("b",), 24)
        held.cut(0)
        self.check(grammar, held, ("a",) * 22 + ("b",), 1)
        held.put(0, "a")
        self.refused(held, lambda: held.put(3, "a"))
        for _ in range(4):
            held.back()
        self.check(grammar, held, ("a",) * 23, 24)
        self.refused(held, held.back)

    def test_nothing_to_be_undone(self):
        held = Kept(grammar_of("s=a"), ("a",))
        self.refused(held, held.back)
        held.cut(0)
        held.back()
        self.refused(held, held.back)
        self.assertEqual(held.kept(), 1)

    def test_refused_deeds_are_not_undone(self):
        held = Kept(grammar_of("s=a"), ("a",))
        held.put(0, "b")
        self.refused(held, lambda: held.cut(2), lambda: held.change(2, "a"), lambda: held.put(0, "B"))
        held.back()
        self.assertEqual(held.now(), ("a",))
        self.refused(held, held.back)

    def test_no_row(self):
        for thing in things() + [("a",) * 25, ["a"], ("A",), ("a", 1)]:
            if not is_row(thing):
                with self.assertRaises(NoRow):
                    Kept(grammar_of("s=a"), thing)


if __name__ == "__main__":
    unittest.main()
