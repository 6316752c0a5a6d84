"""Two grammars, and two trees, [13.1]."""

import unittest

from paperreader.counting import first_trees, how_many
from paperreader.errors import NoDeed, TooMany
from paperreader.grammars import Grammar
from paperreader.unlike import parted, twofold
from tests.looks import chances, grammar_of, name_of, random_grammar, start_trees, things, words_in
from tests.textlooks import all_rows, first_of, texts_up_to


def changed(chance, grammar):
    """A grammar with a rule less, more, or otherwise; at times with another word."""
    rules = list(grammar.rules)
    kind = chance.choice(["less", "more", "otherwise", "word", "order"])
    names = list(grammar.parts + grammar.words) + ["a"]
    if kind == "less" and len(rules) > 1:
        del rules[chance.randrange(1, len(rules))]
    elif kind == "more":
        rules.append((chance.choice(grammar.parts), tuple(chance.choice(names) for _ in range(chance.randint(0, 2)))))
    elif kind == "otherwise":
        at = chance.randrange(len(rules))
        rules[at] = (rules[at][0], tuple(chance.choice(names) for _ in range(chance.randint(0, 3))))
    elif kind == "word":
        at = chance.randrange(len(rules))
        rules[at] = (rules[at][0], rules[at][1][1:] + ("c",))
    else:
        rules = rules[:1] + rules[:0:-1]
    return Grammar(list(dict.fromkeys(rules)))


class Parted(unittest.TestCase):
    def check(self, one, other, most):
        """Hold what is told, either way about, against all texts; what is told."""
        told = parted(one, other, most)
        self.assertEqual(told, first_of(texts_up_to(one, most) ^ texts_up_to(other, most)))
        self.assertEqual(parted(other, one, most), told)
        return told

    def test_small_grammars(self):
        lengths = {}
        for chance in chances(1500, "parted"):
            one = random_grammar(chance, parts=chance.randint(1, 4), words=chance.randint(1, 2), most_rules=8)
            other = changed(chance, one)
            many = len(set(one.words + other.words))
            most = 6 if many < 4 else 4 if many < 6 else 3
            told = self.check(one, other, most)
            lengths[None if told is None else len(told)] = lengths.get(None if told is None else len(told), 0) + 1
        self.assertGreater(lengths[None], 300)
        for length in range(4):
            self.assertGreater(lengths[length], 50)

    def test_each_length(self):
        for chance in chances(60, "parted lengths"):
            one, other = (random_grammar(chance, parts=2, words=2, most_rules=6) for _ in range(2))
            for most in range(5):
                self.check(one, other, most)

    def test_alike(self):
        for one, other in (
            ("s=a s b;s=", "s=t;t=a t b;t=;u=c"), ("s=s s;s=a", "s=a s;s=a"), ("s=s", "s=s a"), ("s=t;t=s", "t=s;s=t t"),
            ("s=a a", "s=t t;t=a"), ("s=", "s=s s;s="),
        ):
            self.assertIsNone(self.check(grammar_of(one), grammar_of(one), 6))
            self.assertIsNone(self.check(grammar_of(one), grammar_of(other), 6))

    def test_up_to_the_length(self):
        one, other = grammar_of("s=a a a s;s="), grammar_of("s=a a a;s=")
        for most, row in ((0, None), (5, None), (6, ("a",) * 6)):
            self.assertEqual(self.check(one, other, most), row)
        self.assertEqual(self.check(grammar_of("s=a"), grammar_of("s=a;s="), 0), ())
        self.assertEqual(self.check(grammar_of("s=a"), grammar_of("s=a;s=b"), 0), None)

    def test_first_in_order(self):
        self.assertEqual(self.check(grammar_of("s=c;s=a b"), grammar_of("s=a b;s=a a"), 4), ("c",))
        self.assertEqual(self.check(grammar_of("s=c a;s=b z"), grammar_of("s=b y;s=d a"), 4), ("b", "y"))
        self.assertEqual(self.check(grammar_of("s=ab;s=b"), grammar_of("s=aa;s=b"), 3), ("aa",))

    def test_a_part_that_is_a_word_of_the_other_one(self):
        self.assertEqual(self.check(grammar_of("s=t;t=a"), grammar_of("s=t;s=a"), 3), ("t",))
        self.assertEqual(self.check(grammar_of("s=a s;s="), grammar_of("a=s a;a="), 3), ("a",))

    def test_one_without_texts(self):
        self.assertEqual(self.check(grammar_of("s=s b"), grammar_of("s=c;s=b b"), 3), ("c",))
        self.assertIsNone(self.check(grammar_of("s=s b"), grammar_of("s=c;s=b b"), 0))

    def test_large_grammars(self):
        rules = [(name_of(at), (name_of(at + 1), name_of(at + 1))) for at in range(200)] + [(name_of(200), ())]
        rules += [(name_of(at), ("a",)) for at in range(0, 90)]
        one, other = Grammar(rules), Grammar(rules + [(name_of(99), ("a", "b"))])
        self.assertIsNone(parted(one, one, 6))
        self.assertEqual(parted(one, other, 6), ("a", "b"))


class Twofold(unittest.TestCase):
    def check(self, grammar, most):
        """Hold what is told against going through all rows; what is told."""
        told = twofold(grammar, most)
        rows = [row for row in all_rows(grammar.words, most) if how_many(grammar, row) not in (0, 1)]
        if not rows:
            self.assertIsNone(told)
            return None
        self.assertEqual(told[0], first_of(rows))
        self.assertEqual(told, (told[0],) + tuple(first_trees(grammar, told[0], 2)))
        return told

    def test_small_grammars(self):
        kinds = {}
        for chance in chances(500, "twofold"):
            grammar = random_grammar(chance, parts=chance.randint(1, 4), words=chance.randint(1, 2), most_rules=7)
            told = self.check(grammar, 6 if len(grammar.words) < 3 else 4)
            kinds[None if told is None else len(told[0])] = True
        self.assertGreater(len(kinds), 4)

    def test_by_all_trees(self):
        found = 0
        for chance in chances(500, "twofold trees"):
            grammar = random_grammar(chance, parts=3, words=1, most_rules=5)
            trees = start_trees(grammar, 6)
            told = twofold(grammar, 3)
            plain = {}
            for tree in trees:
                plain.setdefault(words_in(tree), []).append(tree)
            row = first_of(row for row in plain if len(plain[row]) > 1 and len(row) <= 3)
            if told is None:
                self.assertIsNone(row)
            elif row == told[0]:
                self.assertEqual(list(told[1:]), plain[row][:2])
                found += 1
            else:
                self.assertTrue(row is None or (len(told[0]), told[0]) < (len(row), row))
        self.assertGreater(found, 50)

    def test_plain(self):
        one, other = (0, ((0, ((1, ("a",)),) * 2), (1, ("a",)))), (0, ((1, ("a",)), (0, ((1, ("a",)),) * 2)))
        self.assertEqual(self.check(grammar_of("s=s s;s=a"), 6), (("a",) * 3, one, other))
        self.assertIsNone(self.check(grammar_of("s=s s;s=a"), 2))
        self.assertIsNone(self.check(grammar_of("s=a s b;s="), 6))
        self.assertIsNone(self.check(grammar_of("s=s a"), 6))
        self.assertEqual(self.check(grammar_of("s=t;s=;t="), 0), ((), (1, ()), (0, ((2, ()),))))

    def test_trees_without_end(self):
        self.assertEqual(self.check(grammar_of("s=s;s=a"), 6), (("a",), (1, ("a",)), (0, ((1, ("a",)),))))
        self.assertEqual(self.check(grammar_of("s=s s;s="), 3), ((), (1, ()), (0, ((1, ()), (1, ())))))
        self.assertIsNone(self.check(grammar_of("s=s;s=a"), 0))

    def test_trees_that_are_no_parts_of_texts(self):
        self.assertIsNone(self.check(grammar_of("s=a;t=t;t=b;s=b u;u=u"), 6))

    def test_first_in_order(self):
        self.assertEqual(self.check(grammar_of("s=t;s=a b;s=u;t=c;u=c;t=a b"), 4)[0], ("c",))
        self.assertEqual(self.check(grammar_of("s=t;t=b b;s=b b;s=b a;t=b a;t=b"), 4)[0], ("b", "a"))

    def test_large_grammars(self):
        rules = [(name_of(at), (name_of(at + 1), name_of(at + 1))) for at in range(100)] + [(name_of(100), ())]
        self.assertIsNone(twofold(Grammar(rules + [("z", ("a",))]), 6))


class Refused(unittest.TestCase):
    def test_no_such_length(self):
        grammar = grammar_of("s=a s;s=")
        many = Grammar([("s", (name_of(number),)) for number in range(300)])
        for most in things() + [-1, 7, 10 ** 30, True, False, "1", (1,)]:
            if type(most) is not int or not 0 <= most <= 6:
                for one in (grammar, many):
                    with self.assertRaises(NoDeed):
                        parted(one, one, most)
                    with self.assertRaises(NoDeed):
                        twofold(one, most)

    def test_edges_of_the_length(self):
        grammar = grammar_of("s=a s;s=")
        for most in (0, 6):
            self.assertIsNone(parted(grammar, grammar, most))
            self.assertIsNone(twofold(grammar, most))

    def words_of(self, numbers):
        return Grammar([("s", (name_of(number),)) for number in numbers])

    def test_too_many_rows(self):
        for many, most in ((3, 6), (4, 5), (7, 4), (14, 3), (54, 2), (300, 1)):
            self.assertLessEqual(many ** most, 3000)
            self.assertIsNone(twofold(self.words_of(range(many)), most))
            self.assertIsNone(parted(self.words_of(range(many - 1)), self.words_of(range(many - 1)), most))
        for many, most in ((4, 6), (5, 5), (8, 4), (15, 3), (55, 2)):
            self.assertGreater(many ** most, 3000)
            with self.assertRaises(TooMany):
                twofold(self.words_of(range(many)), most)
            with self.assertRaises(TooMany):
                parted(self.words_of(range(many)), self.words_of(range(1)), most)

    def test_the_words_of_both(self):
        one, other = self.words_of(range(10)), self.words_of(range(5, 15))
        with self.assertRaises(TooMany):
            parted(one, other, 3)
        self.assertEqual(parted(one, other, 2), (min(name_of(number) for number in (0, 1, 2, 3, 4, 10, 11, 12, 13, 14)),))
        self.assertEqual(len(parted(one, self.words_of(range(4, 14)), 3)), 1)

    def test_words_in_no_text_count(self):
        rules = [("s", ("a",)), ("t", ("b",)), ("t", ("c",)), ("t", ("d",))]
        with self.assertRaises(TooMany):
            twofold(Grammar(rules), 6)
        self.assertIsNone(twofold(Grammar(rules), 5))

    def test_many_words(self):
        rules = [(name_of(at), tuple(name_of(1000 + 8 * at + by) for by in range(8))) for at in range(300)]
        self.assertIsNone(twofold(Grammar(rules), 1))
        rules = [("s", (name_of(1000 + number),)) for number in range(300)]
        self.assertIsNone(parted(Grammar(rules), Grammar(rules[::-1]), 1))
        with self.assertRaises(TooMany):
            parted(Grammar(rules), Grammar(rules), 2)
        more = [(name_of(at), tuple(name_of(1000 + 8 * at + by) for by in range(8))) for at in range(300)]
        less = [(name_of(at), tuple(name_of(5000 + 8 * at + by) for by in range(8))) for at in range(300)]
        with self.assertRaises(TooMany):
            parted(Grammar(more), Grammar(less), 1)
        self.assertIsNone(parted(Grammar(more), Grammar(less), 0))

    def test_3000_words(self):
        rules = [(name_of(at), tuple(name_of(1000 + 8 * at + by) for by in range(8))) for at in range(375)]
        one, other = Grammar(rules[:300]), Grammar(rules[300:])
        self.assertEqual(len(one.words + other.words), 3000)
        self.assertIsNone(parted(one, other, 1))
        with self.assertRaises(TooMany):
            parted(one, Grammar(rules[300:] + [(name_of(375), ("z",))]), 1)


if __name__ == "__main__":
    unittest.main()
