"""Grammars crossed with machines of words, [9.2] and [0.2] (f)."""

import random
import unittest

from paperreader.crossing import are_closed, meet, show_none, ways
from paperreader.errors import TooMany
from paperreader.grammars import Grammar
from paperreader.machines import Machine
from paperreader.trees import is_tree, row_of, rules_in
from tests.crosslooks import (
    all_ways, are_closed_by_look, random_machine, shows_by_look, takes_by_look, ways_by_look,
)
from tests.looks import chain_rules, chances, grammar_of, is_tree_of, name_of, random_grammar, things
from tests.textlooks import first_of, rows_by_part, texts_up_to

FAR = 7


def ring(many, word="a", ends=(0,)):
    """A machine that goes round by a word."""
    return Machine(many, [(at, word, (at + 1) % many) for at in range(many)], list(ends))


def leads_along(machine, row, begin, end):
    """Whether steps lead along a row from one place to another one."""
    places = {begin}
    for word in row:
        places = {further for place, step, further in machine.steps if place in places and step == word}
    return end in places


def takes_long(machine, row):
    """Whether a machine takes a row of any length."""
    return any(leads_along(machine, row, 0, end) for end in machine.ends)


class Ways(unittest.TestCase):
    def test_plain(self):
        grammar = grammar_of("s=a t;t=b;t=")
        machine = Machine(3, [(0, "a", 1), (1, "b", 2), (1, "t", 0)], [2])
        told = ((0, "s", 1), (0, "s", 2), (0, "t", 0), (1, "t", 1), (1, "t", 2), (2, "t", 2))
        self.assertEqual(ways(grammar, machine), told)
        self.assertIsInstance(ways(grammar, machine), tuple)

    def test_small_grammars(self):
        for chance in chances(250, "ways"):
            grammar = random_grammar(chance, parts=chance.randint(1, 4), words=chance.randint(1, 2))
            machine = random_machine(chance, ["a", "b", "z", "s"])
            self.assertEqual(ways(grammar, machine), tuple(sorted(ways_by_look(grammar, machine))))

    def test_each_is_one_of_some_row(self):
        held = 0
        for chance in chances(80, "ways by rows"):
            grammar = random_grammar(chance, parts=3, most_names=2)
            machine = random_machine(chance, ["a", "b"], 3)
            rows = rows_by_part(grammar, 6)
            plain = {
                (begin, part, end) for begin, part, end in all_ways(grammar, machine)
                if any(leads_along(machine, row, begin, end) for row in rows[part])
            }
            # Longer rows lead further at times, but never where ways are closed without them.
            self.assertLessEqual(plain, set(ways(grammar, machine)))
            held += len(plain)
            if are_closed_by_look(grammar, machine, plain):
                self.assertEqual(ways(grammar, machine), tuple(sorted(plain)))
        self.assertGreater(held, 300)

    def test_empty_parts_and_rings(self):
        self.assertEqual(ways(grammar_of("s="), Machine(2, [], [])), ((0, "s", 0), (1, "s", 1)))
        self.assertEqual(ways(grammar_of("s=s;s=t s;t=s;t="), Machine(1, [(0, "a", 0)], [])), ((0, "t", 0),))
        grammar = grammar_of("s=s;s=t s;s=a;t=")
        self.assertEqual(ways(grammar, ring(2)), ((0, "s", 1), (0, "t", 0), (1, "s", 0), (1, "t", 1)))

    def test_parts_that_are_not_fruitful(self):
        grammar = grammar_of("s=a;s=u;u=u a;t=a u")
        self.assertEqual(ways(grammar, ring(1)), ((0, "s", 0),))
        self.assertEqual(ways(grammar_of("s=s a"), ring(3)), ())

    def test_steps_by_other_names(self):
        grammar = grammar_of("s=t a;t=a")
        machine = Machine(2, [(0, "t", 1), (0, "s", 1), (0, "z", 1), (1, "a", 1)], [1])
        self.assertEqual(ways(grammar, machine), ((1, "s", 1), (1, "t", 1)))
        self.assertEqual(meet(grammar, machine), ("ways", ((1, "s", 1), (1, "t", 1))))

    def test_chains_told_from_either_end(self):
        for back in (False, True):
            for many in (99, 298):
                grammar = Grammar(chain_rules(many, back))
                told = ways(grammar, ring(12, "w"))
                self.assertEqual(told, tuple(sorted(
                    (at, name_of(number), (at + 1) % 12) for at in range(12) for number in range(many)
                )))
                self.assertIs(are_closed(grammar, ring(12, "w"), told), True)
                self.assertIs(show_none(grammar, ring(12, "w"), told), True)

    def test_what_is_told_is_the_same_by_turns(self):
        grammars = [grammar_of("s=a s;s="), grammar_of("s=a a;s=b"), grammar_of("t=s;s=a t;s=")]
        machines = [ring(2), Machine(2, [(0, "b", 1)], [1]), ring(3, ends=(2,))]
        told = {}
        for _ in range(3):
            for at, grammar in enumerate(grammars):
                for number, machine in enumerate(machines):
                    found = (ways(grammar, machine), meet(grammar, machine))
                    self.assertEqual(told.setdefault((at, number), found), found)
                    self.assertEqual(set(found[0]), ways_by_look(grammar, machine))

    def test_large(self):
        chance = random.Random("large ways")
        names = [name_of(number) for number in range(100)]
        rules = {(name, (chance.choice("abcd"),)): True for name in names}
        while len(rules) < 300:
            rules[(chance.choice(names), tuple(chance.choice(names) for _ in range(8)))] = True
        grammar = Grammar(list(rules))
        steps = [(chance.randrange(12), chance.choice("abcd"), chance.randrange(12)) for _ in range(100)]
        machine = Machine(12, steps, [11])
        told = ways(grammar, machine)
        self.assertIs(are_closed(grammar, machine, told), True)
        self.assertIs(are_closed(grammar, machine, all_ways(grammar, machine)), True)
        for left in chance.sample(told, 60):
            # Least ones ask for each other one by one: what is left out is asked for by the others.
            self.assertIs(are_closed(grammar, machine, [way for way in told if way != left]), False)


class Closed(unittest.TestCase):
    def check(self, grammar, machine, held):
        """Hold the answers for ways that are some against the looks."""
        self.assertIs(are_closed(grammar, machine, held), are_closed_by_look(grammar, machine, held))
        self.assertIs(show_none(grammar, machine, held), shows_by_look(grammar, machine, held))

    def test_small_grammars(self):
        shown = [0, 0]
        for chance in chances(250, "closed ways"):
            grammar = random_grammar(chance, parts=chance.randint(1, 3), words=chance.randint(1, 2))
            machine = random_machine(chance, ["a", "b"], 3)
            least = list(ways(grammar, machine))
            every = all_ways(grammar, machine)
            self.assertIs(are_closed(grammar, machine, least), True)
            self.assertIs(are_closed(grammar, machine, every), True)
            self.assertIs(are_closed(grammar, machine, []), not least)
            for held in (least, every, []):
                self.check(grammar, machine, held)
            for _ in range(6):
                held = least + [way for way in every if chance.random() < 0.3]
                held += held[:chance.randint(0, 3)]
                chance.shuffle(held)
                self.check(grammar, machine, held)
                self.check(grammar, machine, tuple(held))
                if held:
                    left = chance.choice(held)
                    self.check(grammar, machine, [way for way in held if way != left])
                shown[show_none(grammar, machine, held)] += 1
        self.assertGreater(min(shown), 200)

    def test_each_least_one_is_needed(self):
        for chance in chances(60, "needed ways"):
            grammar = random_grammar(chance, parts=2, most_names=2)
            machine = random_machine(chance, ["a", "b"], 3)
            least = list(ways(grammar, machine))
            for way in least:
                held = [other for other in least if other != way]
                self.assertIs(are_closed(grammar, machine, held), False)
                self.assertIs(show_none(grammar, machine, held), False)
            self.assertIs(are_closed(grammar, machine, least[::-1] + least), True)

    def test_without_ends(self):
        grammar = grammar_of("s=a")
        self.assertIs(show_none(grammar, Machine(1, [(0, "a", 0)], []), [(0, "s", 0)]), True)
        self.assertIs(show_none(grammar, Machine(1, [(0, "a", 0)], [0]), [(0, "s", 0)]), False)
        self.assertIs(show_none(grammar, Machine(1, [(0, "a", 0)], []), []), False)

    def test_what_is_no_list_of_ways(self):
        grammar = grammar_of("s=a t;t=b")
        machine = Machine(2, [(0, "a", 1)], [1])
        right = [(at, part, other) for at in range(2) for part in "st" for other in range(2)]
        self.assertIs(are_closed(grammar, machine, right), True)
        wrong = [
            (2, "s", 0), (0, "s", 2), (-1, "s", 0), (0, "a", 1), (0, "z", 1), (True, "s", 0), (0, "s", False),
            [0, "s", 1], (0, "s"), (0, "s", 1, 1), ("s", 0, 1), (0, None, 1), (0, ["s"], 1), (None, "s", 0), (),
        ]
        for look in (are_closed, show_none):
            for way in wrong + things():
                self.assertIs(look(grammar, machine, right + [way]), False)
                self.assertIs(look(grammar, machine, (way,)), False)
            for told in things() + [set(right), {way: True for way in right}, iter(right), "s"]:
                is_empty = type(told) in (list, tuple) and len(told) == 0
                self.assertIs(look(grammar, machine, told), is_empty)

    def test_what_is_handed_in_stays(self):
        grammar = grammar_of("s=a")
        held = [(0, "s", 0), (0, "s", 0)]
        self.assertIs(are_closed(grammar, ring(1), held), True)
        self.assertEqual(held, [(0, "s", 0), (0, "s", 0)])


class Meets(unittest.TestCase):
    def check(self, grammar, machine):
        """Hold what is told against all texts up to a length; the row of a tree, or None."""
        texts = [row for row in texts_up_to(grammar, FAR) if takes_by_look(machine, row)]
        kind, told = meet(grammar, machine)
        if kind == "ways":
            self.assertEqual(texts, [])
            self.assertIsInstance(told, tuple)
            self.assertTrue(shows_by_look(grammar, machine, told))
            self.assertIs(show_none(grammar, machine, told), True)
            return None
        self.assertEqual(kind, "tree")
        self.assertTrue(is_tree_of(grammar, grammar.start, told))
        row = row_of(told)
        self.assertTrue(takes_long(machine, row))
        if texts or len(row) <= FAR:
            self.assertEqual(row, first_of(texts))
        return row

    def test_small_grammars(self):
        kinds = [0, 0]
        for chance in chances(1000, "meets"):
            grammar = random_grammar(chance, parts=chance.randint(1, 4), words=chance.randint(1, 3))
            row = self.check(grammar, random_machine(chance, ["a", "b", "c", "s"]))
            kinds[row is None] += 1
        self.assertGreater(min(kinds), 200)

    def test_small_grammars_with_longer_rows(self):
        lengths = []
        for chance in chances(1500, "longer meets"):
            grammar = random_grammar(chance, parts=2, words=2, most_rules=6)
            many = chance.randint(3, 6)
            steps = [(at, word, (at + 1) % many) for at in range(many) for word in "ab" if chance.random() < 0.8]
            row = self.check(grammar, Machine(many, steps, [chance.randrange(3, many + 1) % many]))
            lengths.append(len(row or ()))
        self.assertGreater(sum(length > 2 for length in lengths), 150)
        self.assertGreater(max(lengths), 5)

    def test_the_first_of_many(self):
        machine = Machine(1, [(0, word, 0) for word in "abcz"], [0])
        for text, row in (
            ("s=c a;s=b c;s=b b b", ("b", "c")), ("s=t u;t=b;t=a b;t=;u=c;u=a c", ("c",)),
            ("s=t u;t=b;t=a;u=c;u=b", ("a", "b")), ("s=z;s=a a", ("z",)), ("s=t t;t=;t=a", ()),
        ):
            self.assertEqual(row_of(meet(grammar_of(text), machine)[1]), row)

    def test_names_of_unlike_lengths(self):
        machine = Machine(1, [(0, word, 0) for word in ("b", "aa", "z", "ab")], [0])
        self.assertEqual(row_of(meet(grammar_of("s=b z;s=ab z;s=aa z"), machine)[1]), ("aa", "z"))

    def test_by_way_of_unlike_places(self):
        # A lesser word leads to a place from which the text ends later.
        grammar = grammar_of("s=t u;t=a;t=b;u=a u;u=c")
        machine = Machine(4, [(0, "a", 1), (0, "b", 3), (1, "a", 2), (2, "c", 3), (3, "c", 2)], [2, 3])
        self.assertEqual(row_of(meet(grammar, machine)[1]), ("b", "c"))

    def test_rows_of_more_than_24_words(self):
        grammar = grammar_of("s=a a a a a s;s=")
        tree = meet(grammar, ring(12, ends=(11,)))[1]
        self.assertEqual(row_of(tree), ("a",) * 35)
        self.assertTrue(is_tree(grammar, tree))
        grammar = grammar_of("s=a s b;s=c")
        steps = [(at, "a", (at + 1) % 5) for at in range(5)] + [(at, "b", 5 + (at - 4) % 7) for at in range(5, 12)]
        machine = Machine(12, steps + [(2, "c", 5)], [11])
        row = self.check(grammar, machine)
        self.assertEqual(row, ("a",) * 27 + ("c",) + ("b",) * 27)

    def test_far_rows_held_against_counting(self):
        for one, other, end in ((7, 12, 5), (11, 12, 1), (5, 9, 8)):
            grammar = grammar_of(f"s={'a ' * 4}t;s=;t={'a ' * (one - 4)}s")
            many = next(many for many in range(0, 1000, one) if many % other == end)
            self.assertEqual(row_of(meet(grammar, ring(other, ends=(end,)))[1]), ("a",) * many)

    def test_fewest_rules_of_the_row(self):
        grammar = grammar_of("s=t;s=s s;t=u;t=s;u=a;u=b;u=")
        machine = Machine(2, [(0, "a", 1), (0, "b", 1)], [1])
        self.assertEqual(rules_in(meet(grammar, machine)[1]), 3)

    def test_a_word_that_is_a_part(self):
        self.assertEqual(meet(grammar_of("s=t;t=a"), Machine(2, [(0, "t", 1)], [1]))[0], "ways")

    def test_chains(self):
        for back in (False, True):
            grammar = Grammar(chain_rules(150, back))
            self.assertEqual(rules_in(meet(grammar, ring(12, "w", (1,)))[1]), 150)
            self.assertEqual(meet(grammar, ring(12, "w", (2,)))[0], "ways")

    def test_large_trees_where_first_ones_are_small(self):
        # Each part has a first tree of two rules at most, and the row one of 60: it must be told.
        names = [name_of(number) for number in range(60)]
        rules = [(names[at], ("a",) * 7 + (names[at + 1],)) for at in range(59)] + [(names[59], ("b",))]
        grammar = Grammar(rules + [(name, ()) for name in names])
        machine = Machine(2, [(0, "a", 0), (0, "b", 1)], [1])
        self.assertEqual(row_of(meet(grammar, machine)[1]), ("a",) * 413 + ("b",))

    def test_long_rows_of_large_trees(self):
        # Of so many levels come 3 * 2 ** levels - 2 words, where each part's first tree is one of one word.
        for levels, many in ((11, 6142), (12, None)):
            names = [name_of(number) for number in range(levels + 1)]
            rules = [(names[at], ("b", names[at + 1], names[at + 1], "c")) for at in range(levels)]
            grammar = Grammar(rules + [(names[levels], ("a",))] + [(name, ("d",)) for name in names])
            machine = Machine(1, [(0, word, 0) for word in "abc"], [0])
            if many is None:
                with self.assertRaises(TooMany):
                    meet(grammar, machine)
            else:
                self.assertEqual(len(row_of(meet(grammar, machine)[1])), many)

    def test_too_many(self):
        names = [name_of(number) for number in range(100)]
        rules = [(names[at], ("b", names[at + 1], names[at + 1])) for at in range(99)] + [(names[99], ("a",))]
        grammar = Grammar(rules + [(name, ()) for name in names[:99]])
        self.assertEqual(row_of(meet(grammar, ring(1, "b"))[1]), ())
        machine = Machine(2, [(0, "b", 0), (0, "a", 1), (1, "a", 1)], [1])
        with self.assertRaises(TooMany):
            meet(Grammar(rules), Machine(1, [(0, "a", 0), (0, "b", 0)], [0]))
        self.assertEqual(row_of(meet(grammar, machine)[1]), ("b",) * 99 + ("a", "a"))
        empties = [(name, tuple(other for other in inner if other != "b" and other != "a")) for name, inner in rules]
        with self.assertRaises(TooMany):
            meet(Grammar(empties), ring(1))


if __name__ == "__main__":
    unittest.main()
