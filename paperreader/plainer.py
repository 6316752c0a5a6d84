"""Grammars without empty parts, and without rules of one part alone."""

from paperreader.changes import change_by
from paperreader.errors import NoDeed
from paperreader.filling import Filling
from paperreader.looking import empties
from paperreader.straightening import Straightening


def filled(grammar):
    """The change to a grammar in which no part is empty; the row of nothing is left out."""
    return change_by(grammar, [Filling(grammar)], False)


def straight(grammar):
    """The change to a grammar in which no rule is of one part alone; NoDeed where a part is empty."""
    if empties(grammar):
        raise NoDeed("a part is empty")
    return change_by(grammar, [Straightening(grammar)], False)
