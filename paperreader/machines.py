"""Machines of words: places, and steps between them by words."""

from paperreader.errors import NoMachine
from paperreader.names import check_row, is_name, is_number, is_number_below

MOST_PLACES = 12
MOST_STEPS = 100


class Machine:
    """Places from 0 on, steps (place, word, place) between them, and the places where a row may end."""

    def __init__(self, many, steps, ends):
        check_machine(many, steps, ends)
        self.many = many
        self.steps = tuple(sorted(set(steps)))
        self.ends = tuple(sorted(set(ends)))
        self.relations = relations_of(self.steps, many)

    def takes(self, row):
        """Whether steps lead along a row from place 0 to an end."""
        check_row(row)
        places = 1
        for word in row:
            places = led_by(places, self.relation_of(word))
        return any(has_place(places, end) for end in self.ends)

    def relation_of(self, word):
        """For each place those to which steps by the word lead from it, told as bits."""
        return self.relations.get(word, (0,) * self.many)


def check_machine(many, steps, ends):
    """Refuse what is no machine."""
    if not is_number(many) or not 1 <= many <= MOST_PLACES:
        raise NoMachine("a machine has 1 to 12 places")
    if not isinstance(steps, (list, tuple)) or len(steps) > MOST_STEPS:
        raise NoMachine("the steps are a list of at most 100")
    if not all(is_step(step, many) for step in steps):
        raise NoMachine("a step is a tuple of a place, a word and a place")
    if not isinstance(ends, (list, tuple)) or not all(is_number_below(end, many) for end in ends):
        raise NoMachine("the ends are a list of places")


def is_step(thing, many):
    """Whether a thing is a step between so many places."""
    if not isinstance(thing, tuple) or len(thing) != 3 or not is_name(thing[1]):
        return False
    return is_number_below(thing[0], many) and is_number_below(thing[2], many)


def relations_of(steps, many):
    """For each word, for each place, those to which steps by it lead, told as bits."""
    relations = {}
    for place, word, further in steps:
        relation = relations.setdefault(word, [0] * many)
        relation[place] = relation[place] | (1 << further)
    return relations


def led_by(places, relation):
    """All places to which a relation leads from one of these; all told as bits."""
    led = 0
    for place, further in enumerate(relation):
        if has_place(places, place):
            led = led | further
    return led


def has_place(places, place):
    """Whether a place is one of those told as bits."""
    return (places >> place) & 1 == 1
