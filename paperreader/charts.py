"""Charts: whether one is closed, whether it refuses a row, and the least one."""

from paperreader.columns import columns_of, stepped
from paperreader.names import check_row, is_number_below


def least_chart(grammar, row):
    """The closed chart for a row whose items stand in every closed one."""
    check_row(row)
    return chart_of(columns_of(grammar, row))


def chart_of(columns):
    """The columns as a chart."""
    return tuple([items_of(column) for column in columns])


def items_of(column):
    """The items of a column, rising."""
    return tuple(sorted(column.held))


def refuses(grammar, row, chart):
    """Whether a thing is a closed chart for the row in which the start isn't read from 0 to the end."""
    if not is_closed(grammar, row, chart):
        return False
    wholes = [(number, grammar.length_of(number), 0) for number in grammar.rules_of(grammar.start)]
    return not any(whole in chart[-1] for whole in wholes)


def is_closed(grammar, row, chart):
    """Whether a thing is a closed chart for the row."""
    check_row(row)
    if not is_chart(grammar, row, chart):
        return False
    held = [{item: True for item in column} for column in chart]
    if not all((number, 0, 0) in held[0] for number in grammar.rules_of(grammar.start)):
        return False
    waiting = []
    for place, column in enumerate(chart):
        waiting.append(waiting_by_name(grammar, column))
        if not has_begun(grammar, held[place], waiting[place], place):
            return False
        if not has_gone_on(grammar, held[place], waiting, column):
            return False
    return all(has_shifted(grammar, word, waiting[at], held[at + 1]) for at, word in enumerate(row))


def is_chart(grammar, row, thing):
    """Whether a thing is a tuple of columns, one for each place of the row."""
    if not isinstance(thing, tuple) or len(thing) != len(row) + 1:
        return False
    return all(is_column(grammar, place, column) for place, column in enumerate(thing))


def is_column(grammar, place, thing):
    """Whether a thing is a tuple of items that begin at the place or ahead, each once, rising."""
    if not isinstance(thing, tuple) or not all(is_item(grammar, place, item) for item in thing):
        return False
    return all(one < other for one, other in zip(thing, thing[1:]))


def is_item(grammar, place, thing):
    """Whether a thing is an item that begins at the place or ahead."""
    if not isinstance(thing, tuple) or len(thing) != 3 or not is_number_below(thing[0], len(grammar.rules)):
        return False
    return is_number_below(thing[1], grammar.length_of(thing[0]) + 1) and is_number_below(thing[2], place + 1)


def waiting_by_name(grammar, column):
    """For each name the items that have it next."""
    waiting = {}
    for item in column:
        names = grammar.rules[item[0]][1]
        if item[1] < len(names):
            waiting.setdefault(names[item[1]], []).append(item)
    return waiting


def has_begun(grammar, held, waiting, place):
    """Whether each rule of each part that is next begins at the place."""
    for name in waiting:
        if not all((number, 0, place) in held for number in grammar.rules_of(name)):
            return False
    return True


def has_gone_on(grammar, held, waiting, column):
    """Whether for each rule read whole the items that wait for its part have it read."""
    looked = {}
    for number, dot, begin in column:
        part, names = grammar.rules[number]
        if dot == len(names) and (part, begin) not in looked:
            looked[(part, begin)] = True
            if not all(stepped(item) in held for item in waiting[begin].get(part, [])):
                return False
    return True


def has_shifted(grammar, word, waiting, held):
    """Whether the items that have this word of the row next have it read in the next column."""
    if not grammar.has_word(word):
        return True
    return all(stepped(item) in held for item in waiting.get(word, []))
