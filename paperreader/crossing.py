"""Grammars crossed with machines of words: ways, whether they are closed, what a machine takes."""

from paperreader.machines import has_place, led_by
from paperreader.meetings import Meeting
from paperreader.names import is_number_below


def ways(grammar, machine):
    """The least closed ways: (p, part, q) where some row of the part leads from p to q."""
    relations = least_relations(grammar, machine)
    found = []
    for part in grammar.parts:
        for place, further in enumerate(relations[part]):
            found.extend([(place, part, end) for end in range(machine.many) if has_place(further, end)])
    return tuple(sorted(found))


def least_relations(grammar, machine):
    """For each name, for each place, those to which some row of it leads, told as bits."""
    relations = {word: machine.relation_of(word) for word in grammar.words}
    relations.update({part: [0] * machine.many for part in grammar.parts})
    uses = uses_of_parts(grammar)
    todo = list(range(len(grammar.rules)))
    while todo:
        later = {}
        for number in todo:
            part, names = grammar.rules[number]
            if has_grown(relations, part, names, machine.many):
                later.update({user: True for user in uses[part]})
        todo = sorted(later)
    return relations


def uses_of_parts(grammar):
    """For each part the numbers of the rules in which it stands."""
    uses = {part: [] for part in grammar.parts}
    for number, rule in enumerate(grammar.rules):
        for name in sorted(set(rule[1])):
            if grammar.has_part(name):
                uses[name].append(number)
    return uses


def has_grown(relations, part, names, many):
    """Let the part lead to where the names of a rule lead; whether it had not led there."""
    is_grown = False
    for place in range(many):
        further = relations[part][place] | led_along(relations, names, place)
        if further != relations[part][place]:
            relations[part][place] = further
            is_grown = True
    return is_grown


def led_along(relations, names, place):
    """The places to which names lead, one by one, from a place; told as bits."""
    places = 1 << place
    for name in names:
        places = led_by(places, relations[name])
    return places


def are_closed(grammar, machine, ways):
    """Whether a thing is a list of ways that are closed."""
    if not are_ways(grammar, machine, ways):
        return False
    relations = {word: machine.relation_of(word) for word in grammar.words}
    relations.update({part: [0] * machine.many for part in grammar.parts})
    for place, part, further in ways:
        relations[part][place] = relations[part][place] | (1 << further)
    for part, names in grammar.rules:
        for place, further in enumerate(relations[part]):
            if led_along(relations, names, place) | further != further:
                return False
    return True


def are_ways(grammar, machine, thing):
    """Whether a thing is a list of triples of a place, a part and a place."""
    if not isinstance(thing, (list, tuple)):
        return False
    return all(is_way(grammar, machine, way) for way in thing)


def is_way(grammar, machine, thing):
    """Whether a thing is a triple of a place, a part and a place."""
    if not isinstance(thing, tuple) or len(thing) != 3 or not grammar.has_part(thing[1]):
        return False
    return is_number_below(thing[0], machine.many) and is_number_below(thing[2], machine.many)


def show_none(grammar, machine, ways):
    """Whether a thing is a list of closed ways that shows that the machine takes no text."""
    if not are_closed(grammar, machine, ways):
        return False
    return not any((0, grammar.start, end) in ways for end in machine.ends)


def meet(grammar, machine):
    """("tree", a tree of the first row that is a text and taken), or ("ways", ways that show that there is none)."""
    least = ways(grammar, machine)
    if show_none(grammar, machine, least):
        return ("ways", least)
    return ("tree", Meeting(grammar, machine).first_tree())
