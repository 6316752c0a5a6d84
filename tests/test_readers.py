"""The reader by tables, [7.2]."""

import unittest

from paperreader.errors import NoRow, TooMany
from paperreader.full import full_table
from paperreader.grammars import Grammar
from paperreader.names import is_row
from paperreader.readers import run
from paperreader.tables import Table
from paperreader.trees import row_of, rules_in
from tests.looks import chances, grammar_of, name_of, random_grammar, random_row, things
from tests.tablelooks import run_by_look

SUMS = grammar_of("e=e p t;e=t;t=a;t=o e c")


def state(deeds=(), goes=()):
    """A state without notes."""
    return (tuple(sorted(deeds)), tuple(sorted(goes)), ())


def random_table(chance, grammar):
    """A table of some states, by chance."""
    many = chance.randint(1, 5)
    states = []
    for _ in range(many):
        deeds = {word: random_deed(chance, grammar, many) for word in grammar.words + ("",) if chance.random() < 0.8}
        if deeds.get("", ("",))[0] == "shift":
            deeds[""] = ("end",)
        goes = {part: chance.randrange(many) for part in grammar.parts if chance.random() < 0.8}
        states.append(state(deeds.items(), goes.items()))
    return Table(states)


def random_deed(chance, grammar, many):
    kind = chance.random()
    if kind < 0.1:
        return ("end",)
    if kind < 0.5:
        return ("shift", chance.randrange(many))
    return ("make", chance.randrange(len(grammar.rules) + 1))


class Trees(unittest.TestCase):
    def test_plain(self):
        table = full_table(SUMS)[1]
        first = (1, ((2, ("a",)),))
        self.assertEqual(run(SUMS, table, ("a",)), ("tree", first))
        self.assertEqual(run(SUMS, table, ("a", "p", "a")), ("tree", (0, (first, "p", (2, ("a",))))))
        self.assertEqual(run(SUMS, table, ("o", "a", "c")), ("tree", (1, ((3, ("o", first, "c")),))))

    def test_wrong_places(self):
        table = full_table(SUMS)[1]
        for row, place, words in (
            ((), 0, ("a", "o")), (("p",), 0, ("a", "o")), (("a",) * 2, 1, ("", "p")), (("o", "a"), 2, ("c", "p")),
            (("a", "p"), 2, ("a", "o")), (("o", "a", "c", "c", "a"), 3, ("", "p")), (("e",), 0, ("a", "o")),
            (("a", "z"), 1, ("", "p")),
        ):
            self.assertEqual(run(SUMS, table, row), ("wrong", place, words))

    def test_long_rows(self):
        table = full_table(SUMS)[1]
        row = ("a", "p") * 12
        self.assertEqual(run(SUMS, table, row), ("wrong", 24, ("a", "o")))
        self.assertEqual(run(SUMS, table, row[:23])[0], "tree")
        self.assertEqual(run(SUMS, table, row[:22] + ("a", "a")), ("wrong", 23, ("", "p")))

    def test_whatever_table(self):
        told = {"tree": 0, "wrong": 0, "endless": 0}
        for chance in chances(3000, "whatever table"):
            grammar = random_grammar(chance, parts=2, words=2, most_rules=4)
            table = random_table(chance, grammar)
            row = random_row(chance, grammar, 4)
            look = run_by_look(grammar, table.states, row)
            told["endless" if look is None else look[0]] += 1
            if look is None:
                with self.assertRaises(TooMany):
                    run(grammar, table, row)
            else:
                self.assertEqual(run(grammar, table, row), look)
        self.assertTrue(min(told.values()) > 30, told)


class Wrong(unittest.TestCase):
    """Each way to go wrong, by tables of its own."""

    def check(self, text, states, row, place, words):
        self.assertEqual(run(grammar_of(text), Table(states), row), ("wrong", place, words))

    def test_no_deed(self):
        self.check("s=a", [state()], (), 0, ())
        self.check("s=a", [state([("a", ("shift", 1))]), state()], ("a", "a"), 1, ())
        self.check("s=a", [state([("b", ("end",)), ("ab", ("end",))])], ("a",), 0, ("ab", "b"))

    def test_make_of_a_rule_that_is_not_there(self):
        self.check("s=a", [state([("", ("make", 1))], [("s", 0)])], (), 0, ("",))
        self.check("s=", [state([("a", ("make", 299))], [("s", 0)])], ("a",), 0, ("a",))

    def test_make_with_too_few_on_the_pile(self):
        shifting = [state([("a", ("shift", 1))], [("s", 0)]), state([("", ("make", 0)), ("b", ("end",))])]
        self.check("s=a a", shifting, ("a",), 1, ("", "b"))
        self.check("s=a", [state([("", ("make", 0))], [("s", 0)])], (), 0, ("",))

    def test_make_without_a_go(self):
        self.check("s=", [state([("", ("make", 0)), ("a", ("end",))], [("t", 0)])], (), 0, ("", "a"))
        # Nothing is taken off by such a make: the words are those of the state that was on top.
        states = [state([("a", ("shift", 1)), ("b", ("end",))]), state([("", ("make", 0)), ("c", ("end",))], [("s", 1)])]
        self.check("s=a", states, ("a",), 1, ("", "c"))

    def test_ends_with_none_and_with_two(self):
        self.check("s=a", [state([("", ("end",))])], (), 0, ("",))
        states = [state([("a", ("shift", 0)), ("", ("end",))])]
        self.check("s=a", states, ("a", "a"), 2, ("", "a"))
        self.assertEqual(run(grammar_of("s=a"), Table(states), ("a",)), ("tree", "a"))

    def test_an_end_at_a_word(self):
        states = [state([("a", ("shift", 1)), ("b", ("end",))]), state([("b", ("end",))])]
        self.assertEqual(run(grammar_of("s=a"), Table(states), ("a", "b")), ("tree", "a"))
        self.check("s=a", states, ("b", "b"), 0, ("a", "b"))

    def test_words_are_taken_as_they_are(self):
        states = [state([("s", ("shift", 0)), ("zz", ("shift", 0)), ("", ("make", 0))], [("t", 1)]),
                  state([("", ("end",))])]
        grammar = grammar_of("t=s zz;s=a")
        self.assertEqual(run(grammar, Table(states), ("s", "zz")), ("tree", (0, ("s", "zz"))))


def chain(letter, many, last):
    """Rules by which a part gives way so many times, at last to these names."""
    names = [letter + name_of(at) for at in range(many)]
    return [(name, (further,)) for name, further in zip(names, names[1:])] + [(names[-1], last)], names[0]


def made_at_end(many):
    """A grammar and a row of 24 words; so many rules are made behind the last of them, by the full table."""
    upper, top = chain("u", 123, ("s",))
    lower, low = chain("l", many - 24 * 124 - 1, ())
    return Grammar([("s", ("a", top)), ("s", (low,))] + upper + lower), ("a",) * 24


class Rings(unittest.TestCase):
    def refused(self, grammar, table, row):
        with self.assertRaises(TooMany):
            run(grammar, table, row)

    def test_rings_of_makes(self):
        ring = [state([("a", ("shift", 1))], [("s", 2)]), state([("", ("make", 1))]), state([("", ("make", 0))])]
        self.refused(grammar_of("s=s;s=a"), Table(ring), ("a",))
        self.refused(grammar_of("s="), Table([state([("", ("make", 0))], [("s", 0)])]), ())
        self.refused(grammar_of("s="), Table([state([("a", ("make", 0))], [("s", 0)])]), ("a", "b"))

    def test_the_3000th_make(self):
        grammar, row = made_at_end(2999)
        kind, tree = run(grammar, full_table(grammar)[1], row)
        self.assertEqual((kind, row_of(tree), rules_in(tree)), ("tree", row, 2999))
        grammar, row = made_at_end(3000)
        self.refused(grammar, full_table(grammar)[1], row)
        self.assertEqual(run(grammar, full_table(grammar)[1], row[1:])[0], "tree")

    def test_the_3000th_make_ahead_of_all_words(self):
        inner, low = chain("l", 50, ())
        for many in (2998, 2999, 3000):
            last, end = chain("u", many - 1 - 7 * 401, ())
            grammar = Grammar([("s", ("t",) * 7 + (end,)), ("t", (low,) * 8)] + inner + last)
            if many == 3000:
                self.refused(grammar, full_table(grammar)[1], ())
            else:
                kind, tree = run(grammar, full_table(grammar)[1], ())
                self.assertEqual((kind, rules_in(tree)), ("tree", many))

    def test_2999_makes_and_then_wrong(self):
        grammar, row = made_at_end(2999)
        states = list(full_table(grammar)[1].states)
        at = dict(states[0][1])["s"]
        states[at] = ((("b", ("end",)),), (), ())
        self.assertEqual(run(grammar, Table(states), row), ("wrong", 24, ("b",)))

    def test_each_word_begins_anew(self):
        lower, low = chain("l", 200, ())
        grammar = Grammar([("s", (low, "a", "s")), ("s", ())] + lower)
        kind, tree = run(grammar, full_table(grammar)[1], ("a",) * 24)
        self.assertEqual((kind, rules_in(tree)), ("tree", 24 * 201 + 1))


class Refused(unittest.TestCase):
    def test_no_row(self):
        table = full_table(SUMS)[1]
        for thing in things() + [("a",) * 25, ["a"], ("",), ("a", "")]:
            if not is_row(thing):
                with self.assertRaises(NoRow):
                    run(SUMS, table, thing)

    def test_ahead_of_too_many(self):
        with self.assertRaises(NoRow):
            run(grammar_of("s="), Table([state([("", ("make", 0))], [("s", 0)])]), [])


if __name__ == "__main__":
    unittest.main()
