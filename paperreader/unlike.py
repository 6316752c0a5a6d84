"""The first row that tells two grammars apart, and the first one that has two trees."""

from paperreader.counting import first_trees
from paperreader.errors import NoDeed, TooMany
from paperreader.forests import Forest
from paperreader.names import is_number_below
from paperreader.walks import Texts, first_row

LONGEST = 6
MOST_ROWS = 3000


def parted(one, other, most):
    """None where two grammars have the same texts of at most so many words, or the first row that just one has."""
    words = sorted(set(one.words + other.words))
    check_most(most, len(words))
    return first_row(are_parted, [Texts(one), Texts(other)], words, most)


def are_parted(walked, found):
    """Whether the row that has these columns is a text of just one of two grammars."""
    return walked[0].is_text(found[0]) != walked[1].is_text(found[1])


def twofold(grammar, most):
    """None where each text of at most so many words has one tree, or (row, tree, tree): the first other one."""
    check_most(most, len(grammar.words))
    row = first_row(has_two_trees, [Texts(grammar)], grammar.words, most)
    if row is None:
        return None
    one, other = first_trees(grammar, row, 2)
    return (row, one, other)


def has_two_trees(walked, found):
    """Whether the row that has these columns is a text with more than one tree."""
    texts = walked[0]
    if not texts.is_text(found[0]):
        return False
    # Each choice in a forest stands in some tree: where there are two, there are two trees.
    forest = Forest(texts.live, found[0])
    return any(len(choices) > 1 for choices in forest.choices)


def check_most(most, many):
    """Refuse what is no number from 0 to 6; then one for which there are too many rows of so many words."""
    if not is_number_below(most, LONGEST + 1):
        raise NoDeed("rows of 0 to 6 words are gone through")
    rows = 1
    for _ in range(most):
        rows = rows * many
    if rows > MOST_ROWS:
        raise TooMany("more than 3000 rows")
