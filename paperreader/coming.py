"""What may come behind a row: whether it begins a text, how it goes on, where it goes wrong."""

from paperreader.columns import columns_of
from paperreader.errors import NoGrammar
from paperreader.looking import trimmed
from paperreader.names import check_row
from paperreader.rests import Rests


def is_beginning(grammar, row):
    """Whether some text begins with the row."""
    return len(last_held(columns_of_texts(grammar, row)[1])) > 0


def goes_on(grammar, row):
    """The words with which the row is a beginning again, rising."""
    live, columns = columns_of_texts(grammar, row)
    if not last_held(columns):
        return ()
    return tuple(sorted([name for name in columns[-1].waiting if live.has_word(name)]))


def wrong_at(grammar, row):
    """The place at which the row goes wrong, or None of a text."""
    live, columns = columns_of_texts(grammar, row)
    if columns and 0 in columns[-1].begins_of(live.start):
        return None
    for at in range(len(row)):
        if not columns or not columns[at + 1].held:
            return at
    return len(row)


def rest_of(grammar, row):
    """The first row with which the row is a text, or None of no beginning."""
    live, columns = columns_of_texts(grammar, row)
    if not last_held(columns):
        return None
    return Rests(live, columns).first_rest()


def columns_of_texts(grammar, row):
    """The trimmed grammar and its columns for a row; None and no columns where there is no text.

    There all that is half read can be read to its end: where a column has something, a text goes on.
    """
    check_row(row)
    try:
        live = trimmed(grammar)
    except NoGrammar:
        return (None, [])
    return (live, columns_of(live, row))


def last_held(columns):
    """What the last column holds; nothing where there is none."""
    return columns[-1].held if columns else {}
