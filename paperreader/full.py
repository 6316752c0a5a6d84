"""The full table of a grammar, or the clash for which there is none."""

from paperreader.states import States


def full_table(grammar):
    """("table", table), or ("clash", names, word, one, other): the first clash, and what leads there."""
    states = States(grammar)
    for at, state in enumerate(states.states):
        both = states.clashes(state.masks)
        if both > 0:
            word = states.words.signs_in(both)[0]
            one, other = least_calling(states, state.masks, word)
            return ("clash", states.path_to(at), word, one, other)
    return ("table", states.table_of([(state.masks, state.steps) for state in states.states]))


def least_calling(states, masks, word):
    """The least two notes of a state that call for unlike deeds at a word."""
    calling = []
    shifting = []
    for number, dot in masks:
        name = states.words.next_name(number, dot)
        if name is None and masks[(number, dot)] & states.words.bits[word] > 0:
            calling.append((number, dot, word))
        if name == word:
            shifting.append((number, dot, states.words.signs_in(masks[(number, dot)])[0]))
    # All that shift call for one and the same deed: of those the least one is enough.
    calling = sorted(calling + sorted(shifting)[:1])
    return calling[0], calling[1]
