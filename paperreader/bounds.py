"""Trees too large to be told, and what the document says on when they are told all the same."""

from paperreader.errors import TooMany

MOST_TOLD = 10000
# Where what is alike in a tree is one tuple, a larger one can be told.
MOST_SHARED = 1000000
SMALL = 60


def check_told(grammar, least, many, most=MOST_TOLD):
    """Refuse to tell a tree of so many rules, of a row whose least tree has least of them.

    There is no refusal where neither that one nor the first tree of any part has more than 60.
    """
    if many > most and (least > SMALL or not has_small_firsts(grammar)):
        raise TooMany("a tree of more rules than are told")


def has_small_firsts(grammar):
    """Whether the first tree of each fruitful part has at most 60 rules."""
    sizes = first_sizes(grammar)
    return all(sizes[name][1] <= SMALL for name in sizes)


def first_sizes(grammar):
    """For each word and fruitful part how many words, and rules, its first tree has."""
    return least_sizes(grammar, (1, 0))


def fewest_sizes(grammar):
    """For each word and fruitful part its least size where words count nothing: (0, its fewest rules)."""
    return least_sizes(grammar, (0, 0))


def least_sizes(grammar, of_word):
    """For each word and fruitful part its least size, where each word has this one."""
    sizes = {word: of_word for word in grammar.words}
    has_changed = True
    while has_changed:
        has_changed = False
        for part, names in grammar.rules:
            if all(name in sizes for name in names):
                size = size_over([sizes[name] for name in names])
                if part not in sizes or size < sizes[part]:
                    sizes[part] = size
                    has_changed = True
    return sizes


def size_over(sizes):
    """How many words and rules a tree has that has trees of such sizes in it."""
    return (sum([size[0] for size in sizes]), 1 + sum([size[1] for size in sizes]))
