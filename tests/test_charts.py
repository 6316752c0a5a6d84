"""Charts, [4.1] and [4.2]."""

import unittest

from paperreader.charts import is_closed, least_chart, refuses
from paperreader.errors import NoRow
from paperreader.grammars import Grammar
from tests.looks import (
    chain_rules, chances, grammar_of, is_closed_by_points, least_by_points, random_grammar, random_row,
    refuses_by_points, things,
)


def all_items(grammar, place):
    """All items that may stand at a place, rising."""
    return tuple(
        (k, dot, begin)
        for k, rule in enumerate(grammar.rules) for dot in range(len(rule[1]) + 1) for begin in range(place + 1)
    )


def with_column(chart, place, column):
    """The chart with another column at a place."""
    return chart[:place] + (column,) + chart[place + 1:]


class Least(unittest.TestCase):
    def test_plain(self):
        grammar = grammar_of("s=s a;s=")
        self.assertEqual(
            least_chart(grammar, ("a",)),
            (((0, 0, 0), (0, 1, 0), (1, 0, 0)), ((0, 1, 0), (0, 2, 0))),
        )

    def test_row_of_nothing(self):
        self.assertEqual(least_chart(grammar_of("s=a"), ()), (((0, 0, 0),),))
        self.assertEqual(least_chart(grammar_of("s=a"), ("b",)), (((0, 0, 0),), ()))

    def test_parts_in_a_row_are_no_words_of_it(self):
        self.assertEqual(least_chart(grammar_of("s=t;t=a"), ("t",)), (((0, 0, 0), (1, 0, 0)), ()))

    def test_empty_parts_read_ahead_of_who_waits(self):
        grammar = grammar_of("s=e t e;t=e e;t=t s;e=;e=e")
        for row in ((), ("a",)):
            self.assertEqual(least_chart(grammar, row), least_by_points(grammar, row))

    def test_held_against_the_points(self):
        for chance in chances(250, "least"):
            grammar = random_grammar(chance, parts=4, most_rules=9, most_names=4)
            row = random_row(chance, grammar, 6)
            chart = least_chart(grammar, row)
            self.assertEqual(chart, least_by_points(grammar, row))
            self.assertIs(is_closed(grammar, row, chart), True)

    def test_many_trees_and_rings(self):
        for text in ("s=s s;s=a;s=", "s=s;s=s s;s=t;t=s;t=a", "s=s s s;s=t;t=;t=s a s"):
            grammar = grammar_of(text)
            for many in (0, 1, 5, 24):
                row = ("a",) * many
                self.assertEqual(least_chart(grammar, row), least_by_points(grammar, row))

    def test_larger_grammars(self):
        for chance in chances(4, "larger"):
            grammar = random_grammar(chance, parts=6, words=4, most_rules=40, most_names=5)
            row = random_row(chance, grammar, 12)
            self.assertEqual(least_chart(grammar, row), least_by_points(grammar, row))

    def test_chains(self):
        for back in (False, True):
            grammar = Grammar(chain_rules(120, back))
            chart = least_chart(grammar, ("w",))
            self.assertEqual([len(column) for column in chart], [120, 120])
            self.assertIs(is_closed(grammar, ("w",), chart), True)


class Closed(unittest.TestCase):
    def setUp(self):
        self.grammar = grammar_of("s=t s;s=;t=a;t=e b;e=")
        self.row = ("a", "b", "a")
        self.chart = least_chart(self.grammar, self.row)

    def test_one_item_less(self):
        for place, column in enumerate(self.chart):
            for at in range(len(column)):
                less = with_column(self.chart, place, column[:at] + column[at + 1:])
                self.assertIs(is_closed(self.grammar, self.row, less), False)
                self.assertIs(refuses(self.grammar, self.row, less), False)

    def test_one_item_more(self):
        for place, column in enumerate(self.chart):
            for item in all_items(self.grammar, place):
                if item not in column:
                    more = with_column(self.chart, place, tuple(sorted(column + (item,))))
                    self.assertIs(
                        is_closed(self.grammar, self.row, more), is_closed_by_points(self.grammar, self.row, more)
                    )

    def test_all_items(self):
        chart = tuple(all_items(self.grammar, place) for place in range(4))
        self.assertIs(is_closed(self.grammar, self.row, chart), True)
        self.assertIs(refuses(self.grammar, self.row, chart), False)

    def test_spoilt_items(self):
        column = self.chart[2]
        for item in ((-1, 0, 0), (5, 0, 0), (0, 3, 0), (0, -1, 0), (0, 0, 3), (0, 0, -1), (0, 0), (0, 0, 0, 0), [0, 0, 0],
                     (False, 0, 0), (0, False, 0), (0, 0, True), ("0", 0, 0), None, "s", (0, None, 0), (0, 0, (0,)), (),
                     10, (10 ** 30, 0, 0)):
            for at in range(len(column) + 1):
                spoilt = with_column(self.chart, 2, column[:at] + (item,) + column[at:])
                self.assertIs(is_closed(self.grammar, self.row, spoilt), False)
        grammar = grammar_of("s=a;s=b")
        self.assertIs(is_closed(grammar, (), (((0, 0, 0), (True, 0, 0)),)), False)

    def test_other_orders(self):
        for place, column in enumerate(self.chart):
            for at in range(len(column)):
                self.assertFalse(is_closed(self.grammar, self.row, with_column(self.chart, place, column + column[at:])))
            turned = with_column(self.chart, place, column[::-1])
            self.assertIs(is_closed(self.grammar, self.row, turned), len(column) < 2)
            twice = with_column(self.chart, place, column[:1] + column)
            self.assertIs(is_closed(self.grammar, self.row, twice), False)

    def test_more_and_fewer_columns(self):
        self.assertFalse(is_closed(self.grammar, self.row, self.chart + ((),)))
        self.assertFalse(is_closed(self.grammar, self.row, self.chart[:-1]))
        self.assertFalse(is_closed(self.grammar, self.row, ()))

    def test_lists_for_tuples(self):
        self.assertFalse(is_closed(self.grammar, self.row, list(self.chart)))
        for place, column in enumerate(self.chart):
            self.assertFalse(is_closed(self.grammar, self.row, with_column(self.chart, place, list(column))))
            lists = tuple(list(item) for item in column)
            self.assertFalse(is_closed(self.grammar, self.row, with_column(self.chart, place, lists)))

    def test_an_item_behind_its_place(self):
        grammar = grammar_of("s=a;s=b a")
        self.assertTrue(is_closed(grammar, (), (((0, 0, 0), (1, 0, 0)),)))
        self.assertFalse(is_closed(grammar, (), (((0, 0, 0), (1, 0, 0), (1, 0, 1)),)))

    def test_things(self):
        for thing in things():
            self.assertIs(is_closed(self.grammar, (), thing), False)
            self.assertIs(refuses(self.grammar, (), thing), False)
            self.assertIs(is_closed(self.grammar, (), (thing,)), False)
            self.assertIs(is_closed(self.grammar, (), ((thing,),)), False)
            self.assertIs(refuses(self.grammar, ("a",), (self.chart[0], thing)), False)

    def test_random_ones_against_the_points(self):
        closed = 0
        for chance in chances(250, "closed"):
            grammar = random_grammar(chance, parts=3, most_rules=5)
            row = random_row(chance, grammar, 3)
            chart = list(least_chart(grammar, row))
            for _ in range(chance.randint(1, 3)):
                place = chance.randrange(len(chart))
                items = [item for item in all_items(grammar, place) if chance.random() < 0.3]
                chart[place] = tuple(sorted(set(chart[place]) | set(items)))
            told = is_closed(grammar, row, tuple(chart))
            closed += told
            self.assertIs(told, is_closed_by_points(grammar, row, tuple(chart)))
            self.assertIs(refuses(grammar, row, tuple(chart)), refuses_by_points(grammar, row, tuple(chart)))
        self.assertTrue(10 < closed < 240)


class Refuses(unittest.TestCase):
    def test_plain(self):
        grammar = grammar_of("s=s a;s=")
        for row, is_none in (((), False), (("a",) * 24, False), (("b",), True), (("a", "b", "a"), True)):
            self.assertIs(refuses(grammar, row, least_chart(grammar, row)), is_none)

    def test_a_larger_chart_refuses_too(self):
        grammar = grammar_of("s=a;t=b s")
        chart = (((0, 0, 0), (1, 0, 0)), ((0, 0, 1), (1, 1, 0)))
        self.assertIs(refuses(grammar, ("b",), chart), True)
        self.assertNotEqual(least_chart(grammar, ("b",)), chart)

    def test_another_row(self):
        grammar = grammar_of("s=a b")
        chart = least_chart(grammar, ("a", "a"))
        self.assertIs(refuses(grammar, ("a", "a"), chart), True)
        self.assertIs(refuses(grammar, ("a", "b"), chart), False)

    def test_it_is_read_from_the_first_place_on(self):
        grammar = grammar_of("s=a s;s=b")
        chart = least_chart(grammar, ("a", "a"))
        self.assertIs(refuses(grammar, ("a", "a"), chart), True)
        chart = chart[:2] + (chart[2] + ((1, 0, 1), (1, 1, 1)),)
        self.assertIs(refuses(grammar, ("a", "a"), tuple(tuple(sorted(c)) for c in chart)), False)


class Rows(unittest.TestCase):
    def test_no_row_first(self):
        grammar = grammar_of("s=a")
        for thing in things() + [("a",) * 25, ["a"], ("a", 1), ("A",)]:
            if repr(thing) in ("()", "('a',)", "('s',)"):
                continue
            for call in (least_chart, lambda g, row: is_closed(g, row, None), lambda g, row: refuses(g, row, None)):
                with self.assertRaises(NoRow):
                    call(grammar, thing)


if __name__ == "__main__":
    unittest.main()
