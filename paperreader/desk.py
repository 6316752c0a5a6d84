"""The desk: a grammar and commands in one text, and the answers to them."""

from paperreader.coming import goes_on, is_beginning, wrong_at
from paperreader.counting import how_many
from paperreader.errors import NoDeed, NoGrammar, NoPart, NoRow, NoText, TooMany
from paperreader.firsts import first_tree
from paperreader.full import full_table
from paperreader.grammars import Grammar
from paperreader.grammartexts import rows_of, rules_told, tells_something, written
from paperreader.leftless import worded
from paperreader.mending import mended
from paperreader.names import is_name
from paperreader.numbering import nth_tree
from paperreader.readings import reading
from paperreader.short import short_table
from paperreader.treetexts import FIGURES, tree_text
from paperreader.trees import row_of
from paperreader.unlike import twofold

NO_COMMAND = "no command"
MOST_FIGURES = 6


def answers(text):
    """The answers to the commands of a text, behind its grammar and a row without words."""
    rows = rows_of(text)
    end = end_of_grammar(rows)
    rules = rules_told(rows[:end])
    if end == len(rows):
        raise NoText(len(rows) - 1)
    grammar = Grammar(rules)
    commands = [row.split() for row in rows[end:]]
    return [answer(grammar, words) for words in commands if words]


def end_of_grammar(rows):
    """The number of the first row without words behind a rule; how many rows there are where there is none."""
    is_told = False
    for at, row in enumerate(rows):
        words = row.split()
        if is_told and not words:
            return at
        is_told = is_told or tells_something(words)
    return len(rows)


def answer(grammar, words):
    """The answer to a command of these words."""
    command = words[0]
    told = words[1:]
    if command not in COMMANDS or not is_form(FORMS[command], told):
        return NO_COMMAND
    action = COMMANDS[command]
    try:
        return action(grammar, told)
    except NoRow:
        return "no NoRow"
    except NoPart:
        return "no NoPart"
    except NoGrammar:
        return "no NoGrammar"
    except NoDeed:
        return "no NoDeed"
    except TooMany:
        return "no TooMany"


def is_form(form, words):
    """Whether words are such as a form tells: n for a name, f for figures; a star: names, as many as there are."""
    found = ""
    for word in words:
        if is_name(word):
            found += "n"
        else:
            found += "f" if is_figures(word) else "x"
    return found == ("n" * len(words) if form == "*" else form)


def is_figures(word):
    """Whether a word is a number of one to six figures, no nought ahead."""
    if not 1 <= len(word) <= MOST_FIGURES or not all(sign in FIGURES for sign in word):
        return False
    return word == "0" or not word.startswith("0")


def row_text(row):
    """The text of a row, which is - for nothing."""
    return " ".join(row) if row else "-"


def number_text(number):
    """The figures of a number, however many there are: Python itself writes some thousands at most."""
    base = 10 ** 60
    pieces = []
    while number >= base:
        number, piece = divmod(number, base)
        pieces.append(str(piece).zfill(60))
    pieces.append(str(number))
    return "".join(pieces[::-1])


def answer_read(grammar, words):
    """A tree of the row, or that it has none."""
    kind, found = reading(grammar, tuple(words))
    return tree_text(found) if kind == "tree" else "no"


def answer_many(grammar, words):
    """How many trees the row has."""
    many = how_many(grammar, tuple(words))
    return "endless" if many is None else number_text(many)


def answer_next(grammar, words):
    """The words that go on."""
    row = tuple(words)
    return row_text(goes_on(grammar, row)) if is_beginning(grammar, row) else "no"


def answer_wrong(grammar, words):
    """Where the row goes wrong."""
    place = wrong_at(grammar, tuple(words))
    return "text" if place is None else str(place)


def answer_table(grammar, _):
    """How many states the tables have, or what leads to the clash."""
    found = full_table(grammar)
    if found[0] == "clash":
        return f"clash {row_text(found[1])}"
    return f"full {len(found[1].states)} short {len(short_table(grammar).states)}"


def answer_first(grammar, words):
    """The row of the first tree of a part."""
    tree = first_tree(grammar, words[0])
    return "none" if tree is None else row_text(row_of(tree))


def answer_nth(grammar, words):
    """A tree by its number."""
    return tree_text(nth_tree(grammar, words[0], int(words[1]), int(words[2])))


def answer_mend(grammar, words):
    """What a mend costs, and the row of one."""
    cost, tree = mended(grammar, tuple(words))
    return f"{cost} {row_text(row_of(tree))}"


def answer_twofold(grammar, words):
    """The first row that has two trees."""
    found = twofold(grammar, int(words[0]))
    return "none" if found is None else row_text(found[0])


def answer_worded(grammar, _):
    """The text of the worded grammar, in one row."""
    return written(worded(grammar).second)[:-1].replace("\n", "; ")


COMMANDS = {
    "read": answer_read, "many": answer_many, "next": answer_next, "wrong": answer_wrong, "table": answer_table,
    "first": answer_first, "nth": answer_nth, "mend": answer_mend, "twofold": answer_twofold, "worded": answer_worded,
}
FORMS = {
    "read": "*", "many": "*", "next": "*", "wrong": "*", "table": "",
    "first": "n", "nth": "nff", "mend": "*", "twofold": "f", "worded": "",
}
