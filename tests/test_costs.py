"""What it costs to make one row of another one, [11.1]."""

import unittest

from paperreader.costs import cost_between
from tests.looks import chances
from tests.textlooks import all_rows


def steps_from(row, words):
    """All rows to which one word taken out, put in or exchanged leads."""
    found = set()
    for at in range(len(row) + 1):
        found |= {row[:at] + (word,) + row[at:] for word in words}
        if at < len(row):
            found.add(row[:at] + row[at + 1:])
            found |= {row[:at] + (word,) + row[at + 1:] for word in words}
    return found


def costs_from(row, words, most):
    """For each row of at most so many words the fewest steps to it, none of them over longer rows."""
    costs = {row: 0}
    todo = [row]
    for here in todo:
        for further in steps_from(here, words):
            if further not in costs and len(further) <= most:
                costs[further] = costs[here] + 1
                todo.append(further)
    return costs


class Costs(unittest.TestCase):
    def test_plain(self):
        for row, other, cost in (
            ("", "", 0), ("a", "", 1), ("", "a b", 2), ("a", "a", 0), ("a", "b", 1), ("a b", "b a", 2),
            ("a b c", "a c", 1), ("a c", "a b c", 1), ("a b c d", "b c d e", 2), ("a a a", "b b", 3),
            ("k i t t e n", "s i t t i n g", 3), ("ab", "a b", 2), ("ab", "ba", 1),
        ):
            self.assertEqual(cost_between(tuple(row.split()), tuple(other.split())), cost)

    def test_all_short_rows(self):
        for row in all_rows(("a", "b", "c"), 3):
            costs = costs_from(row, ("a", "b", "c"), 4)
            for other in all_rows(("a", "b", "c"), 4):
                self.assertEqual(cost_between(row, other), costs[other])

    def test_rows_of_two_words(self):
        for row in all_rows(("a", "b"), 5):
            costs = costs_from(row, ("a", "b"), 5)
            for other in all_rows(("a", "b"), 5):
                self.assertEqual(cost_between(row, other), costs[other])

    def test_nothing_on_either_side(self):
        for many in (0, 1, 24, 300):
            self.assertEqual(cost_between(("a",) * many, ()), many)
            self.assertEqual(cost_between((), ("a",) * many), many)

    def test_either_way_about(self):
        for chance in chances(60, "costs"):
            one, other = (tuple(chance.choice("abc") for _ in range(chance.randint(0, 12))) for _ in range(2))
            self.assertEqual(cost_between(one, other), cost_between(other, one))

    def test_long_rows(self):
        row = ("a", "b", "c") * 150
        self.assertEqual(cost_between(row, row), 0)
        self.assertEqual(cost_between(row, row[1:]), 1)
        self.assertEqual(cost_between(row, ("z",) + row), 1)
        self.assertEqual(cost_between(row[1:], row[:-1]), 2)
        self.assertEqual(cost_between(row, ("d",) * 450), 450)
        self.assertEqual(cost_between(("a",) * 300, ("b",) * 500), 500)
        self.assertEqual(cost_between(row, row[:200] + ("z",) + row[203:]), 3)


if __name__ == "__main__":
    unittest.main()
