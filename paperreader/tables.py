"""Tables by which a reader goes from word to word, kept as they were handed in."""

from paperreader.errors import NoTable
from paperreader.grammars import MOST_NAMES, MOST_RULES
from paperreader.names import is_name, is_number, is_number_below

MOST_STATES = 600
TOP_RULE = -1


class Table:
    """A table of 1 to 600 states, each a triple of its deeds, its goes and its notes."""

    def __init__(self, states):
        check_states(states)
        self.states = tuple(states)
        self.deeds = [{word: deed for word, deed in state[0]} for state in self.states]
        self.goes = [{part: number for part, number in state[1]} for state in self.states]


def check_states(states):
    """Refuse what is no list of 1 to 600 states."""
    if not isinstance(states, (list, tuple)) or not 1 <= len(states) <= MOST_STATES:
        raise NoTable("a table is a list of 1 to 600 states")
    if not all(is_state(state, len(states)) for state in states):
        raise NoTable("a state is a triple of its deeds, its goes and its notes")


def is_state(thing, many):
    """Whether a thing is a state of a table that has so many."""
    if not is_tuple_of(thing, 3) or not all(isinstance(told, tuple) for told in thing):
        return False
    deeds, goes, notes = thing
    return are_deeds(deeds, many) and are_goes(goes, many) and are_notes(notes)


def is_tuple_of(thing, many):
    """Whether a thing is a tuple of so many things."""
    return isinstance(thing, tuple) and len(thing) == many


def are_deeds(things, many):
    """Whether the things are pairs of a word and a deed, words rising."""
    if not all(is_tuple_of(pair, 2) and is_word_or_end(pair[0]) and is_deed(pair[1], many) for pair in things):
        return False
    if not is_rising([pair[0] for pair in things]):
        return False
    return not any(word == "" and deed[0] == "shift" for word, deed in things)


def is_word_or_end(thing):
    """Whether a thing is a name, or the text of nothing, which stands for a row's end."""
    return is_name(thing) or (isinstance(thing, str) and len(thing) == 0)


def is_deed(thing, many):
    """Whether a thing is a deed of a table that has so many states."""
    if not isinstance(thing, tuple) or not 1 <= len(thing) <= 2 or not isinstance(thing[0], str):
        return False
    if len(thing) == 1:
        return thing[0] == "end"
    if thing[0] == "shift":
        return is_number_below(thing[1], many)
    return thing[0] == "make" and is_number_below(thing[1], MOST_RULES)


def are_goes(things, many):
    """Whether the things are pairs of a part and a state, parts rising."""
    if not all(is_tuple_of(pair, 2) and is_name(pair[0]) and is_number_below(pair[1], many) for pair in things):
        return False
    return is_rising([pair[0] for pair in things])


def are_notes(things):
    """Whether the things are notes, rising."""
    return all(is_note(thing) for thing in things) and is_rising(things)


def is_note(thing):
    """Whether a thing is a note: a rule, how many of its names are read, a word that may come behind it."""
    if not is_tuple_of(thing, 3) or not is_word_or_end(thing[2]):
        return False
    number, dot, word = thing
    if is_number_below(number, MOST_RULES):
        return is_number_below(dot, MOST_NAMES + 1)
    return is_number(number) and number == TOP_RULE and is_number_below(dot, 2) and word == ""


def is_rising(things):
    """Whether each of the things is less than the next one."""
    return all(one < other for one, other in zip(things, things[1:]))
