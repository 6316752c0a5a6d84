"""Machines of words, and grammars crossed with them, looked at by the words of the document."""

from itertools import product

from paperreader.machines import Machine


def random_machine(chance, words, most=4):
    """A small machine, by a chance that is the same in each run."""
    many = chance.randint(1, most)
    steps = [
        (chance.randrange(many), chance.choice(words), chance.randrange(many))
        for _ in range(chance.randint(0, 2 * many))
    ]
    return Machine(many, steps, [place for place in range(many) if chance.random() < 0.4])


def takes_by_look(machine, row, place=0):
    """Whether steps lead along the row to an end, by going along all of them."""
    if not row:
        return place in machine.ends
    return any(
        takes_by_look(machine, row[1:], further) for begin, word, further in machine.steps
        if begin == place and word == row[0]
    )


def leads(machine, held, parts, names, begin):
    """The places to which names lead from a place, one by one."""
    places = {begin}
    for name in names:
        steps = held if name in parts else machine.steps
        places = {q for p, step, q in steps if p in places and step == name}
    return places


def asked_ways(grammar, machine, held):
    """All ways that the rules ask for, by those held."""
    parts = {part for part, _ in grammar.rules}
    asked = set()
    for (part, names), begin in product(grammar.rules, range(machine.many)):
        asked |= {(begin, part, end) for end in leads(machine, held, parts, names, begin)}
    return asked


def ways_by_look(grammar, machine):
    """The least closed ways, as a set."""
    held = set()
    while not asked_ways(grammar, machine, held) <= held:
        held |= asked_ways(grammar, machine, held)
    return held


def are_closed_by_look(grammar, machine, held):
    """Whether ways that are some are closed."""
    return asked_ways(grammar, machine, set(held)) <= set(held)


def shows_by_look(grammar, machine, held):
    """Whether ways that are some are closed and have none of the start from 0 to an end."""
    goals = {(0, grammar.rules[0][0], end) for end in machine.ends}
    return are_closed_by_look(grammar, machine, held) and not goals & set(held)


def all_ways(grammar, machine):
    """All ways that there could be."""
    return list(product(range(machine.many), grammar.parts, range(machine.many)))
