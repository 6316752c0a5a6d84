"""The least closed chart of a row, made place by place."""


class Column:
    """The items at one place, and what their followers ask of them."""

    def __init__(self, place):
        self.place = place
        self.held = {}
        self.waiting = {}
        self.begun = {}

    def begins_of(self, part):
        """The places from which the part is read up to here."""
        return self.begun.get(part, [])


def columns_of(grammar, row):
    """The columns of the least closed chart for a row, one for each of its places."""
    columns = []
    add_column(grammar, columns, [(number, 0, 0) for number in grammar.rules_of(grammar.start)])
    for word in row:
        add_word(grammar, columns, word)
    return columns


def add_word(grammar, columns, word):
    """Add the column to which a word leads from the last one; those that are there stay as they are."""
    waiting = columns[-1].waiting.get(word, []) if grammar.has_word(word) else []
    add_column(grammar, columns, [stepped(item) for item in waiting])


def stepped(item):
    """The item with one name more read."""
    number, dot, begin = item
    return (number, dot + 1, begin)


def add_column(grammar, columns, items):
    """Add the column that holds these items and all that they call for."""
    column = Column(len(columns))
    columns.append(column)
    todo = list(items)
    while todo:
        item = todo.pop()
        if item not in column.held:
            column.held[item] = True
            todo.extend(called_for(grammar, columns, column, item))


def called_for(grammar, columns, column, item):
    """What must stand in the column beside a new item of it."""
    number, dot, begin = item
    part, names = grammar.rules[number]
    if dot < len(names):
        return called_by_name(grammar, column, item, names[dot])
    begins = column.begun.setdefault(part, [])
    if begin in begins:
        return []
    begins.append(begin)
    return [stepped(waiting) for waiting in columns[begin].waiting.get(part, [])]


def called_by_name(grammar, column, item, name):
    """What must stand in the column beside a new item that has this name next."""
    waiting = column.waiting.setdefault(name, [])
    waiting.append(item)
    called = []
    if len(waiting) == 1:
        called = [(number, 0, column.place) for number in grammar.rules_of(name)]
    # A part that is read as nothing may have been read ahead of the item that waits for it.
    if column.place in column.begins_of(name):
        called.append(stepped(item))
    return called
