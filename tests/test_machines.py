"""Machines of words, [9.1]."""

import unittest

from paperreader.errors import NoMachine, NoRow
from paperreader.machines import Machine
from paperreader.names import is_row
from tests.crosslooks import random_machine, takes_by_look
from tests.looks import chances, things
from tests.textlooks import all_rows


def name_at(number):
    """A name for each number up to 26 * 26."""
    letters = "abcdefghijklmnopqrstuvwxyz"
    return letters[number // 26] + letters[number % 26]


class Machines(unittest.TestCase):
    def assert_none(self, many, steps, ends):
        with self.assertRaises(NoMachine) as told:
            Machine(many, steps, ends)
        self.assertIs(type(told.exception), NoMachine)


class Made(Machines):
    def test_fields(self):
        machine = Machine(3, [(2, "a", 0), (0, "b", 1), (0, "a", 2), (2, "a", 0)], [2, 0, 2])
        self.assertEqual(machine.many, 3)
        self.assertEqual(machine.steps, ((0, "a", 2), (0, "b", 1), (2, "a", 0)))
        self.assertEqual(machine.ends, (0, 2))
        self.assertIsInstance(machine.steps, tuple)
        self.assertIsInstance(machine.ends, tuple)

    def test_tuples_for_lists(self):
        machine = Machine(2, ((1, "a", 0), (0, "a", 1)), (1, 0))
        self.assertEqual((machine.steps, machine.ends), (((0, "a", 1), (1, "a", 0)), (0, 1)))

    def test_of_nothing(self):
        machine = Machine(1, [], [])
        self.assertEqual((machine.many, machine.steps, machine.ends), (1, (), ()))

    def test_what_was_handed_in_changes_nothing(self):
        steps, ends = [(1, "a", 0), (0, "a", 1)], [1, 1]
        machine = Machine(2, steps, ends)
        self.assertEqual((steps, ends), ([(1, "a", 0), (0, "a", 1)], [1, 1]))
        steps.append((0, "b", 0))
        ends[0] = 0
        steps[0] = None
        self.assertEqual((machine.steps, machine.ends), (((0, "a", 1), (1, "a", 0)), (1,)))
        self.assertIs(machine.takes(("b",)), False)
        self.assertIs(machine.takes(()), False)
        self.assertIs(machine.takes(("a",)), True)

    def test_how_many_places(self):
        for many in (1, 12):
            self.assertEqual(Machine(many, [(many - 1, "a", many - 1)], [many - 1]).many, many)
        for many in (0, 13, -1, 10 ** 30):
            self.assert_none(many, [], [])

    def test_how_many_steps(self):
        steps = [(0, name_at(number), 0) for number in range(101)]
        self.assertEqual(len(Machine(1, steps[:100], []).steps), 100)
        self.assert_none(1, steps, [])

    def test_steps_told_twice_count_twice(self):
        steps = [(0, name_at(number), 0) for number in range(50)]
        self.assertEqual(len(Machine(1, steps + steps, []).steps), 50)
        self.assert_none(1, steps + steps + steps[:1], [])
        self.assert_none(1, [(0, "a", 0)] * 101, [])
        self.assertEqual(Machine(1, [(0, "a", 0)] * 100, []).steps, ((0, "a", 0),))

    def test_ends_are_as_many_as_told(self):
        self.assertEqual(Machine(12, [], list(range(12)) * 30).ends, tuple(range(12)))


class Refused(Machines):
    def test_places_that_are_not_there(self):
        for place in (-1, 2, 12, 10 ** 20):
            self.assert_none(2, [(place, "a", 0)], [])
            self.assert_none(2, [(0, "a", place)], [])
            self.assert_none(2, [], [place])
            self.assert_none(2, [], [0, place])

    def test_true_and_false_are_no_numbers(self):
        for flag in (True, False):
            self.assert_none(2, [(flag, "a", 0)], [])
            self.assert_none(2, [(0, "a", flag)], [])
            self.assert_none(2, [], [flag])
            self.assert_none(flag, [], [])

    def test_words_that_are_no_names(self):
        for word in ("", "A", "a b", "abcdefghi", "a1", None, 0, ("a",), b"a"):
            self.assert_none(2, [(0, "a", 1), (0, word, 1)], [])

    def test_lists_and_other_lengths_for_steps(self):
        for step in ([0, "a", 1], (0, "a"), (0, "a", 1, 1), (), "aaa", ("a", 0, 1), (0, 1, "a")):
            self.assert_none(2, [step], [])

    def test_other_kinds_of_lists(self):
        for told in ({(0, "a", 0)}, {(0, "a", 0): 1}, "", None, iter([]), 0, range(0)):
            self.assert_none(1, told, [])
            self.assert_none(1, [], told)
        self.assert_none(1, [], {0})
        self.assert_none(1, [], {0: 0})

    def test_things_of_any_kind(self):
        for thing in things():
            if type(thing) is not int or not 1 <= thing <= 12:
                self.assert_none(thing, [], [])
            if type(thing) not in (list, tuple) or len(thing) > 0:
                self.assert_none(1, thing, [])
            if type(thing) not in (list, tuple) or any(type(place) is not int for place in thing):
                self.assert_none(1, [], thing)
            if type(thing) is not int or thing != 0:
                self.assert_none(1, [], [thing])
                self.assert_none(1, [(thing, "a", 0)], [])
                self.assert_none(1, [(0, "a", thing)], [])
            if type(thing) is not str or thing not in ("a", "s"):
                self.assert_none(1, [(0, thing, 0)], [])
            self.assert_none(1, [thing], [])


class Takes(unittest.TestCase):
    def test_plain(self):
        machine = Machine(3, [(0, "a", 1), (1, "b", 2), (1, "b", 1), (2, "a", 0)], [2])
        for row, is_taken in (((), False), (("a",), False), (("a", "b"), True), (("a", "b", "b"), True),
                              (("a", "b", "a"), False), (("b",), False), (("a", "b", "a", "a", "b"), True),
                              (("z",), False), (("a", "b", "z"), False)):
            self.assertIs(machine.takes(row), is_taken)

    def test_the_row_of_nothing(self):
        self.assertIs(Machine(1, [], [0]).takes(()), True)
        self.assertIs(Machine(2, [], [1]).takes(()), False)
        self.assertIs(Machine(1, [], []).takes(()), False)

    def test_all_small_rows(self):
        taken = 0
        for chance in chances(120, "machines"):
            machine = random_machine(chance, ["a", "b"])
            for row in all_rows(("a", "b", "c"), 4):
                self.assertIs(machine.takes(row), takes_by_look(machine, row))
                taken += machine.takes(row)
        self.assertGreater(taken, 300)

    def test_rows_of_24_words(self):
        ring = Machine(12, [(at, "a", (at + 1) % 12) for at in range(12)], [0])
        self.assertIs(ring.takes(("a",) * 24), True)
        self.assertIs(ring.takes(("a",) * 23), False)
        many = Machine(12, [(one, "a", other) for one in range(10) for other in range(10)], [9])
        self.assertIs(many.takes(("a",) * 24), True)
        self.assertIs(many.takes(("a",) * 23 + ("b",)), False)

    def test_no_row(self):
        machine = Machine(1, [(0, "a", 0)], [0])
        for thing in things() + [("a",) * 25, ["a"], ("A",), ("a", 1)]:
            if not is_row(thing):
                with self.assertRaises(NoRow):
                    machine.takes(thing)


if __name__ == "__main__":
    unittest.main()
