"""Tables, [7.1]."""

import unittest

from paperreader.errors import NoTable, TooMany
from paperreader.tables import Table
from tests.looks import Odd, things

EMPTY = ((), (), ())
DEEDS = (("", ("end",)), ("a", ("shift", 1)), ("ab", ("make", 299)), ("b", ("make", 0)))
GOES = (("aa", 2), ("s", 0), ("t", 1))
NOTES = ((-1, 0, ""), (-1, 1, ""), (0, 0, ""), (0, 0, "a"), (0, 8, "a"), (7, 3, "zzzzzzzz"), (299, 0, "b"))
STATES = [(DEEDS, GOES, NOTES), EMPTY, (DEEDS[1:], (), ()), ((), GOES[1:], NOTES[2:])]

BROKEN_DEEDS = [
    DEEDS[::-1], DEEDS + DEEDS[-1:], (("b", ("make", 1)),) + DEEDS, DEEDS[:1] + DEEDS,
    DEEDS + (("b", ("make", 1)),), DEEDS + (("z", ("shift", 4)),), DEEDS + (("z", ("shift", -1)),),
    DEEDS + (("z", ("shift", True)),), DEEDS + (("z", ("make", True)),), DEEDS + (("z", ("make", 300)),),
    DEEDS + (("z", ("make", -1)),), DEEDS + (("z", ("make",)),), DEEDS + (("z", ("shift",)),),
    DEEDS + (("z", ("end", 0)),), DEEDS + (("z", ()),), DEEDS + (("z", ["end"]),), DEEDS + (("z", ["shift", 1]),),
    DEEDS + (("z", "end"),), DEEDS + (("z", ("take", 1)),), DEEDS + (("z", ("shift", 1, 1)),),
    DEEDS + (("z", ("End",)),), DEEDS + (("z", (True, 1)),), DEEDS + (("z", (Odd(), 1)),), DEEDS + (("z", (Odd(),)),),
    DEEDS + (["z", ("end",)],), DEEDS + (("z",),), DEEDS + (("z", ("end",), ()),), DEEDS + (("Z", ("end",)),),
    DEEDS + (("abcdefghi", ("end",)),), DEEDS + ((0, ("end",)),), DEEDS + ((None, ("end",)),), DEEDS + ("z",),
    DEEDS + (("z", ("shift", "1")),), DEEDS + (("z", ("make", None)),), DEEDS + (((), ("end",)),),
    (("", ("shift", 1)),) + DEEDS[1:], list(DEEDS), {"a": ("end",)}, None, "", 0,
]
BROKEN_GOES = [
    GOES[::-1], GOES + GOES[-1:], GOES + (("t", 2),), GOES + (("z", 4),), GOES + (("z", -1),), GOES + (("z", False),),
    GOES + (("z", "1"),), GOES + (("z", None),), GOES + (("z", (1,)),), (("", 1),) + GOES, GOES + (("Z", 1),),
    GOES + (["z", 1],), GOES + (("z",),), GOES + (("z", 1, 1),), GOES + ((1, "z"),), GOES + ((0, 0),), GOES + (None,),
    GOES + (("abcdefghi", 1),), GOES + (("z", ("shift", 1)),), list(GOES), {"s": 1}, None, "", 1,
]
BROKEN_NOTES = [
    NOTES[::-1], NOTES + NOTES[-1:], NOTES + NOTES[:1], NOTES[:1] + NOTES, NOTES + ((300, 0, "a"),),
    NOTES + ((299, 9, "a"),), NOTES + ((299, 1, 0),), NOTES + ((299, 1, None),), NOTES + ((299, 1, "A"),),
    NOTES + ((299, 1, "abcdefghi"),), NOTES + ((299, 1),), NOTES + ((299, 1, "a", "a"),), NOTES + ([299, 1, "a"],),
    NOTES + ((299, -1, "a"),), NOTES + ((299, True, "a"),), NOTES + ((299, "1", "a"),), NOTES + (("299", 1, "a"),),
    NOTES + ((None, 0, ""),), ((-2, 0, ""),) + NOTES, ((-1, -1, ""),) + NOTES, ((-1, 2, ""),), ((-1, 0, "a"),),
    ((-1, 1, "a"),), ((-1, False, ""),), ((True, 0, "a"),), ((False, 0, "a"),), ((0, 0, Odd()),), ((Odd(), 0, ""),),
    ((0, Odd(), ""),), NOTES + ("abc",), list(NOTES), {(0, 0, ""): True}, None, "", 2,
]


class Kept(unittest.TestCase):
    def test_as_handed_in(self):
        table = Table(STATES)
        self.assertEqual(table.states, tuple(STATES))
        self.assertIsInstance(table.states, tuple)
        self.assertEqual(Table(tuple(STATES)).states, tuple(STATES))
        self.assertEqual(Table([EMPTY]).states, (EMPTY,))

    def test_changed_behind(self):
        states = list(STATES)
        table = Table(states)
        states[0] = EMPTY
        states.append(EMPTY)
        self.assertEqual(table.states, tuple(STATES))
        self.assertEqual(states, [EMPTY] + STATES[1:] + [EMPTY])

    def test_an_end_may_stand_anywhere(self):
        state = ((("a", ("end",)),), (), ())
        self.assertEqual(Table([state]).states, (state,))

    def test_how_many_states(self):
        for many in (1, 2, 599, 600):
            self.assertEqual(len(Table([EMPTY] * many).states), many)
        last = ((("a", ("shift", 599)),), (("s", 599),), ())
        self.assertEqual(Table([EMPTY] * 599 + [last]).states[-1], last)


class Refused(unittest.TestCase):
    def refused(self, states):
        with self.assertRaises(NoTable):
            Table(states)

    def test_too_few_and_too_many_states(self):
        self.refused([])
        self.refused(())
        self.refused([EMPTY] * 601)
        try:
            Table([EMPTY] * 100000)
        except TooMany:
            self.fail("there is no other refusal")
        except NoTable:
            pass

    def test_other_things(self):
        for thing in things():
            self.refused(thing)
            self.refused([thing])
            self.refused((EMPTY, thing))
            for other in (((thing,), (), ()), ((), (thing,), ()), ((), (), (thing,))):
                self.refused([EMPTY, other])

    def test_states_are_triples_of_tuples(self):
        for state in (((), ()), ((), (), (), ()), ([], (), ()), ((), [], ()), ((), (), []), [(), (), ()], {}, ""):
            self.refused([state])
            self.refused([EMPTY, state, EMPTY])

    def test_other_lists(self):
        for states in ({0: EMPTY}, iter([EMPTY]), {EMPTY}, "a", Table([EMPTY])):
            self.refused(states)

    def test_one_step_at_any_place(self):
        for at in range(len(STATES)):
            for broken, place in ((BROKEN_DEEDS, 0), (BROKEN_GOES, 1), (BROKEN_NOTES, 2)):
                for told in broken:
                    state = STATES[at][:place] + (told,) + STATES[at][place + 1:]
                    self.refused(STATES[:at] + [state] + STATES[at + 1:])

    def test_each_of_many(self):
        words = ["b" + letter for letter in "abcdefghijklmnopqrstuvwxyz"]
        for at in (0, 11, 24):
            swapped = words[:at] + [words[at + 1], words[at]] + words[at + 2:]
            self.refused([(tuple((word, ("end",)) for word in swapped), (), ())])
            self.refused([((), tuple((word, 0) for word in swapped), ())])
            self.refused([((), (), tuple((3, 1, word) for word in swapped))])
        Table([(tuple((word, ("end",)) for word in words), tuple((word, 0) for word in words),
                tuple((3, 1, word) for word in words))])


if __name__ == "__main__":
    unittest.main()
