"""Names, rows and refusals: the first paragraphs of the interface, [0.3] and [1.1]."""

import unittest

from paperreader import errors
from paperreader.names import is_name, is_number, is_row
from tests.looks import things

REFUSALS = ["NoGrammar", "NoRow", "NoPart", "NoTree", "NoChart", "NoTable", "NoMachine", "NoDeed", "TooMany"]


class Names(unittest.TestCase):
    def test_lengths(self):
        self.assertFalse(is_name(""))
        self.assertTrue(is_name("a"))
        self.assertTrue(is_name("abcdefgz"))
        self.assertFalse(is_name("abcdefghi"))

    def test_other_signs(self):
        for text in ("A", "a1", "a b", " a", "a\n", "\u00e4", "_", "`", "{", "a-", "\u0430", "\uff41"):
            self.assertIs(is_name(text), False, text)

    def test_all_letters(self):
        for letter in "abcdefghijklmnopqrstuvwxyz":
            self.assertIs(is_name(letter), True)

    def test_other_things(self):
        told = [thing for thing in things() if is_name(thing)]
        self.assertEqual(told, ["a", "s"])


class Rows(unittest.TestCase):
    def test_lengths(self):
        for many in (0, 1, 24):
            self.assertIs(is_row(("a",) * many), True)
        self.assertIs(is_row(("a",) * 25), False)

    def test_lists_are_none(self):
        self.assertIs(is_row([]), False)
        self.assertIs(is_row(["a"]), False)

    def test_members(self):
        self.assertTrue(is_row(("a", "bcdefghi")))
        for thing in ("", "A", "abcdefghi", 1, None, ("a",), ["a"], b"a"):
            self.assertIs(is_row(("a", thing)), False)

    def test_other_things(self):
        told = [thing for thing in things() if is_row(thing)]
        self.assertEqual(told, [(), ("a",), ("s",)])


class Numbers(unittest.TestCase):
    def test_true_and_false_are_none(self):
        self.assertTrue(is_number(0) and is_number(-5) and is_number(10 ** 50))
        self.assertFalse(is_number(True) or is_number(False) or is_number("1") or is_number(None))


class Refusals(unittest.TestCase):
    def test_each_is_under_read_error_alone(self):
        self.assertEqual(errors.ReadError.__bases__, (ValueError,))
        for name in REFUSALS + ["NoText"]:
            self.assertEqual(getattr(errors, name).__bases__, (errors.ReadError,), name)

    def test_there_are_no_others(self):
        told = sorted(name for name in vars(errors) if not name.startswith("__"))
        self.assertEqual(told, sorted(REFUSALS + ["NoText", "ReadError"]))

    def test_each_can_be_raised(self):
        for name in REFUSALS:
            with self.assertRaises(ValueError):
                raise getattr(errors, name)("why")

    def test_no_text_keeps_its_row(self):
        self.assertEqual(errors.NoText(7).row, 7)
        with self.assertRaises(errors.ReadError) as told:
            raise errors.NoText(0)
        self.assertEqual(told.exception.row, 0)


if __name__ == "__main__":
    unittest.main()
