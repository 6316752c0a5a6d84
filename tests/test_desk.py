"""The desk, [14.1]."""

import unittest

from paperreader.coming import goes_on, is_beginning, wrong_at
from paperreader.costs import cost_between
from paperreader.counting import how_many
from paperreader.desk import answers, number_text
from paperreader.errors import NoText, ReadError, TooMany
from paperreader.firsts import first_tree
from paperreader.full import full_table
from paperreader.grammartexts import read, written
from paperreader.leftless import worded
from paperreader.mending import mended
from paperreader.numbering import count_trees, nth_tree
from paperreader.readings import reading
from paperreader.short import short_table
from paperreader.trees import row_of
from paperreader.treetexts import read_tree, tree_text
from paperreader.unlike import twofold
from tests.looks import chances, name_of, random_grammar, random_row, things

SUMS = "e = e p t\ne = t\nt = a\nt = o e c\n"
PAIRS = "s = s s\ns = a\n"
RINGS = "s = s\ns = a\n"


def told(row):
    """The text of a row."""
    return " ".join(row) or "-"


class Desk(unittest.TestCase):
    def check(self, grammar, *pairs):
        """Each command beside its answer, one alone and all in one text."""
        for command, answer in pairs:
            self.assertEqual(answers(f"{grammar}\n{command}\n"), [answer], command)
        commands = "\n".join(command for command, _ in pairs)
        self.assertEqual(answers(f"{grammar}\n{commands}"), [answer for _, answer in pairs])


class Commands(Desk):
    def test_read(self):
        self.check(SUMS, ("read a", "1(2(a))"), ("read a p a", "0(1(2(a)) p 2(a))"), ("read", "no"), ("read a a", "no"),
                   ("read z", "no"), ("read e", "no"))
        self.check("s =\ns = a s\n", ("read", "0()"), ("read a", "1(a 0())"), ("read b", "no"))
        self.check(RINGS, ("read a", "1(a)"))

    def test_many(self):
        self.check(PAIRS, ("many", "0"), ("many a", "1"), ("many a a a", "2"), ("many b", "0"),
                   ("many " + "a " * 24, "343059613650"))
        self.check(RINGS, ("many", "0"), ("many a", "endless"), ("many a a", "0"))
        self.check("s = s s\ns =\n", ("many", "endless"), ("many a", "0"))

    def test_many_of_great_numbers(self):
        rules = [f"{name_of(at)} = " + " ".join([name_of(at + 1)] * 8) for at in range(6)]
        text = "\n".join(rules + [f"{name_of(6)} =", f"{name_of(6)} = z", "z =", ""])
        figures = answers(f"{text}\nmany")[0]
        # 2 to the power 8 ** 6: more figures than Python writes at once.
        self.assertEqual(len(figures), 78914)
        number = 1 << 8 ** 6
        self.assertEqual(int(figures[:20]), number // 10 ** (78914 - 20))
        self.assertEqual(int(figures[-400:]), number % 10 ** 400)
        for at in (1000, 30000, 60000):
            self.assertEqual(figures[-at:-at + 60], str(number // 10 ** (at - 60) % 10 ** 60).zfill(60))

    def test_figures(self):
        for number in (0, 1, 9, 10, 10 ** 59, 10 ** 60 - 1, 10 ** 60, 10 ** 60 + 7, 10 ** 120 - 1, 10 ** 120, 3 ** 999):
            self.assertEqual(number_text(number), str(number))

    def test_many_that_are_too_many(self):
        rules = [f"{name_of(at)} = " + " ".join([name_of(at + 1)] * 8) for at in range(30)]
        self.check("\n".join(rules + [f"{name_of(30)} =", f"{name_of(30)} = z", "z =", ""]),
                   ("many", "no TooMany"), ("many a", "0"), ("read", "no TooMany"), ("first qa", "no TooMany"),
                   ("wrong", "text"), ("mend a", "no TooMany"))

    def test_next(self):
        self.check(SUMS, ("next", "a o"), ("next a", "p"), ("next o a", "c p"), ("next p", "no"), ("next z", "no"),
                   ("next e", "no"))
        self.check("s = a\n", ("next", "a"), ("next a", "-"), ("next a a", "no"))
        self.check("s =\n", ("next", "-"), ("next a", "no"))
        self.check("s = s\n", ("next", "no"))

    def test_wrong(self):
        self.check(SUMS, ("wrong", "0"), ("wrong a", "text"), ("wrong a p", "2"), ("wrong a a a", "1"), ("wrong z", "0"))
        self.check("s =\n", ("wrong", "text"), ("wrong a", "0"))
        self.check("s = s\n", ("wrong", "0"), ("wrong a", "0"))

    def test_table(self):
        self.check(SUMS, ("table", "full 16 short 9"))
        self.check(PAIRS, ("table", "clash s s"))
        self.check("s = a\ns = t\nt = a\n", ("table", "clash a"))
        self.check("s = t\ns =\nt =\n", ("table", "clash -"))
        self.check("s = a\n", ("table", "full 3 short 3"))

    def test_first(self):
        self.check("s = t t t\ns = u\nt = a\nt = b c\nu = u\nv = t u\nw =\nx = v\nx = s s\n",
                   ("first s", "a a a"), ("first t", "a"), ("first u", "none"), ("first v", "none"), ("first w", "-"),
                   ("first x", "a a a a a a"), ("first a", "no NoPart"), ("first z", "no NoPart"))

    def test_nth(self):
        self.check(PAIRS, ("nth s 1 0", "1(a)"), ("nth s 3 0", "0(1(a) 1(a))"), ("nth s 5 1", "0(1(a) 0(1(a) 1(a)))"),
                   ("nth s 5 2", "no NoDeed"), ("nth s 2 0", "no NoDeed"), ("nth s 0 0", "no NoDeed"),
                   ("nth s 21 0", "no NoDeed"), ("nth s 999999 999999", "no NoDeed"), ("nth a 1 0", "no NoPart"),
                   ("nth z 0 0", "no NoPart"), ("nth s 19 4862", "no NoDeed"))
        last = "0(1(a) " * 9 + "1(a)" + ")" * 9
        self.check(PAIRS, ("nth s 19 4861", last))

    def test_mend(self):
        self.check("s = a b\n", ("mend a b", "0 a b"), ("mend", "2 a b"), ("mend a", "1 a b"), ("mend b a b", "1 a b"),
                   ("mend s", "2 a b"), ("mend z z z", "3 a b"))
        self.check("s =\n", ("mend", "0 -"), ("mend a a", "2 -"))
        self.check("s = s\n", ("mend", "no NoGrammar"), ("mend a", "no NoGrammar"))

    def test_twofold(self):
        self.check(PAIRS, ("twofold 6", "a a a"), ("twofold 3", "a a a"), ("twofold 2", "none"), ("twofold 0", "none"),
                   ("twofold 7", "no NoDeed"), ("twofold 999999", "no NoDeed"))
        self.check("s = s s\ns =\n", ("twofold 0", "-"))
        self.check("s = a b c d e\n", ("twofold 4", "none"), ("twofold 5", "no TooMany"), ("twofold 7", "no NoDeed"))

    def test_worded(self):
        self.check("s = a\n", ("worded", "s = a"))
        self.check("s = b a\ns =\nt = s\n", ("worded", "s = b a"))
        self.check("s =\n", ("worded", "no NoGrammar"))
        self.check("s = s\n", ("worded", "no NoGrammar"))
        self.check("s =\ns = a\n", ("worded", "s = a"))

    def test_rows_of_24_and_25_words(self):
        long = " ".join(["a"] * 24)
        self.check(PAIRS, *[(f"{command} {long} a", "no NoRow") for command in ("read", "many", "next", "wrong", "mend")])
        self.check(PAIRS, (f"wrong {long}", "text"), (f"next {long}", "a"), (f"mend {long}", f"0 {long}"))
        self.check("s = s\n", (f"mend {long} a", "no NoRow"))


class OtherCommands(Desk):
    def test_other_words(self):
        for command in ("Read a", "reads a", "READ", "x", "a p a", "no", "-", "quit", "#", "# read a", "#read", "1",
                        "firsts e", "read: a", "s = a", "help", "readmany"):
            self.check(SUMS, (command, "no command"))

    def test_words_that_are_no_names(self):
        for command in ("read", "many", "next", "wrong", "mend"):
            for row in ("A", "a B", "abcdefghi", "a1", "1", "a -", "-", "a, a", "a_b", "#", "aA"):
                self.check(SUMS, (f"{command} {row}", "no command"))
            self.check(SUMS, (f"{command} {'a ' * 24}A", "no command"))
        for part in ("E", "abcdefghi", "e1", "-", "1"):
            self.check(SUMS, (f"first {part}", "no command"), (f"nth {part} 1 0", "no command"))

    def test_numbers_of_another_form(self):
        for number in ("00", "01", "007", "1000000", "0000001", "-1", "+1", "1.0", "a", "1a", "A", "--", "1_0"):
            self.check(SUMS, (f"twofold {number}", "no command"), (f"nth e {number} 0", "no command"),
                       (f"nth e 1 {number}", "no command"))
        self.check(SUMS, ("nth e 100000 0", "no NoDeed"), ("nth e 2 0", "1(2(a))"), ("twofold 0", "none"))

    def test_too_many_and_too_few_words(self):
        for command in ("table e", "table 1", "first", "first e t", "first e 1", "nth", "nth e", "nth e 1", "nth e 1 0 0",
                        "nth 1 0", "nth 1 0 e", "twofold", "twofold 1 1", "twofold e", "worded e", "worded 1", "table A"):
            self.check(SUMS, (command, "no command"))

    def test_names_that_are_commands_words(self):
        text = "read = many next\nread = table\nmany = wrong\nnext =\n"
        self.check(text, ("read table", "1(table)"), ("read wrong", "0(2(wrong) 3())"), ("many many", "0"),
                   ("next", "table wrong"), ("first read", "table"), ("first first", "no NoPart"),
                   ("mend table wrong", "1 wrong"), ("wrong wrong", "text"), ("nth many 1 0", "2(wrong)"))


class Texts(Desk):
    def refused(self, text, row):
        with self.assertRaises(NoText) as caught:
            answers(text)
        self.assertEqual(caught.exception.row, row)

    def test_blanks_more(self):
        text = "  e  =  t \n e = e p   t\nt  =   a  \n  \n   read   a   p  a  \n\n  \n table  \n"
        self.assertEqual(answers(text), ["1(0(2(a)) p 2(a))", answers("e = t\ne = e p t\nt = a\n\ntable")[0]])

    def test_rows_without_words_between(self):
        self.assertEqual(answers(f"{SUMS}\n\n\nread a\n\n   \nread\n\n"), ["1(2(a))", "no"])
        self.assertEqual(answers("\n\n  \ns = a\n\nread a"), ["0(a)"])
        self.assertEqual(answers("# one\n\n#two\n\ns = a\n\nread a"), ["0(a)"])

    def test_remarks_in_the_grammar(self):
        text = "# a remark\ns = t\n#s = b\n  # another one\nt = a\n\nread a\n# none\nread b\n"
        self.assertEqual(answers(text), ["0(1(a))", "no command", "no"])
        self.assertEqual(answers("s = a\n#\n\nread a"), ["0(a)"])
        self.refused("s = a #\n\nread a", 0)

    def test_rules_told_twice(self):
        self.assertEqual(answers("s = a\ns = a\ns = b\n\nmany a\nread b"), ["1", "1(b)"])

    def test_without_commands(self):
        for text in ("s = a\n", "s = a\n\n", "s = a\n  ", "s = a\n\n\n   \n", "\n#\ns = a\n"):
            self.assertEqual(answers(text), [])

    def test_no_row_without_words_behind_a_rule(self):
        for text, row in (("", 0), ("s = a", 0), ("\n\n", 2), ("s = a\nread a", 1), ("# s\n\n", 2), ("\n\ns = a", 2),
                          ("s = a\n#", 1), ("s = a\ns = b\n# read", 2), ("#\n\n\n#", 3)):
            self.refused(text, row)

    def test_rows_of_another_form(self):
        for text, row in (("s\n\n", 0), ("s = a\nread a\n\nread a", 1), ("\ns = A\n\n", 1), ("read a\n\ns = a\n\n", 0),
                          ("s = a\n# x\ns a\n", 2), ("s = a\nS = a", 1), ("s = a b c d e f g h i\n\n", 0),
                          ("= a\n\n", 0), ("s =a\n\n", 0), ("s = a\nt", 1)):
            self.refused(text, row)
        self.assertEqual(answers("s = a\n\nS = a\nt\n= a"), ["no command"] * 3)

    def test_signs(self):
        for text in ("s = a\n\nread a\t", "s = a\r\n\n", "s = a\n\nread \u00e4", "\u0000s = a\n\n", "s = a\n\n\x7f"):
            self.refused(text, 0)
        self.assertEqual(answers("s = a\n\n~!@ $^&*\n"), ["no command"])

    def test_20000_signs(self):
        text = "s = a\n\nread a\n"
        self.assertEqual(answers(text + "\n" * (20000 - len(text))), ["0(a)"])
        self.refused(text + "\n" * (20001 - len(text)), 0)
        text = "s = a\n\n"
        many = "read a\n" * ((20000 - len(text)) // 7)
        self.assertEqual(answers(text + many), ["0(a)"] * ((20000 - len(text)) // 7))

    def test_what_is_no_text(self):
        for thing in things():
            if type(thing) is not str:
                self.refused(thing, 0)

    def test_too_many_rules(self):
        rules = [f"s = {name_of(number)}\n" for number in range(301)]
        self.assertEqual(answers("".join(rules[:300]) + "\nfirst s"), ["qa"])
        with self.assertRaises(TooMany):
            answers("".join(rules) + "\nfirst s")
        with self.assertRaises(TooMany):
            answers("".join(rules) + "\n")
        self.refused("".join(rules) + "read a", 301)
        self.refused("".join(rules) + "s = a", 301)
        self.refused("".join(rules) + "# no row without words", 301)
        self.assertEqual(answers("".join(rules[:300] + rules[:20]) + "\nfirst s"), ["qa"])

    def test_each_text_alone(self):
        commands = answers(f"{PAIRS}\nread a\n")
        commands.append("x")
        self.assertEqual(answers(f"{PAIRS}\nread a\n"), ["1(a)"])


class HeldAgainstTheProgram(Desk):
    def refusal(self, look):
        """What a look tells, or the class of its refusal."""
        try:
            return look()
        except ReadError as why:
            return f"no {type(why).__name__}"

    def expected(self, grammar, row):
        """Each command that asks about a row beside its answer."""
        words = " ".join(row)
        kind, found = reading(grammar, row)
        many = how_many(grammar, row)
        place = wrong_at(grammar, row)
        return {
            f"read {words}": tree_text(found) if kind == "tree" else "no",
            f"many {words}": "endless" if many is None else str(many),
            f"next {words}": told(goes_on(grammar, row)) if is_beginning(grammar, row) else "no",
            f"wrong {words}": "text" if place is None else str(place),
        }

    def check_mend(self, grammar, row, answer):
        """Hold the answer to `mend` against the cost and the grammar."""
        cost = self.refusal(lambda: mended(grammar, row)[0])
        if isinstance(cost, str):
            self.assertEqual(answer, cost)
            return
        first, _, rest = answer.partition(" ")
        other = () if rest == "-" else tuple(rest.split(" "))
        self.assertEqual(first, str(cost))
        self.assertEqual(cost_between(row, other), cost)
        self.assertEqual(reading(grammar, other)[0], "tree")

    def test_rows(self):
        for chance in chances(120, "desk rows"):
            grammar = random_grammar(chance, parts=chance.randint(1, 4), words=2)
            rows = [random_row(chance, grammar, 4) for _ in range(4)]
            pairs = {}
            for row in rows:
                pairs.update(self.expected(grammar, row))
            self.check(written(grammar), *pairs.items())
            for row in rows:
                self.check_mend(grammar, row, answers(f"{written(grammar)}\nmend {' '.join(row)}")[0])

    def test_grammars(self):
        for chance in chances(120, "desk grammars"):
            grammar = random_grammar(chance, parts=chance.randint(1, 4), words=2)
            full = full_table(grammar)
            pairs = [("table", f"clash {told(full[1])}" if full[0] == "clash" else
                      f"full {len(full[1].states)} short {len(short_table(grammar).states)}")]
            for part in grammar.parts:
                tree = first_tree(grammar, part)
                pairs.append((f"first {part}", "none" if tree is None else told(row_of(tree))))
                for rules in (1, 2, 3):
                    for n in range(count_trees(grammar, part, rules)):
                        text = tree_text(nth_tree(grammar, part, rules, n))
                        pairs.append((f"nth {part} {rules} {n}", text))
                        self.assertEqual(read_tree(grammar, text), nth_tree(grammar, part, rules, n))
            found = self.refusal(lambda: twofold(grammar, 3))
            pairs.append(("twofold 3", found if isinstance(found, str) else told(found[0]) if found else "none"))
            text = self.refusal(lambda: written(worded(grammar).second))
            pairs.append(("worded", text.rstrip("\n").replace("\n", "; ")))
            self.check(written(grammar), *pairs)

    def test_worded_is_read_again(self):
        answer = answers(f"{SUMS}\nworded")[0]
        self.assertEqual(written(read(answer.replace("; ", "\n"))), written(worded(read(SUMS)).second))


if __name__ == "__main__":
    unittest.main()
