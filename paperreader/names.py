"""Names, rows and numbers: what is one, asked of any thing."""

from paperreader.errors import NoRow

MOST_LETTERS = 8
MOST_WORDS = 24


def is_number(thing):
    """Whether a thing is a whole number, which True and False are not."""
    return isinstance(thing, int) and not isinstance(thing, bool)


def is_number_below(thing, many):
    """Whether a thing is one of the numbers from 0 to many less 1."""
    return is_number(thing) and 0 <= thing < many


def is_name(thing):
    """Whether a thing is a text of 1 to 8 letters a to z."""
    if not isinstance(thing, str) or not 1 <= len(thing) <= MOST_LETTERS:
        return False
    return all("a" <= sign <= "z" for sign in thing)


def are_names(thing, most):
    """Whether a thing is a tuple of at most so many names."""
    if not isinstance(thing, tuple) or len(thing) > most:
        return False
    return all(is_name(name) for name in thing)


def is_row(thing):
    """Whether a thing is a tuple of 0 to 24 names."""
    return are_names(thing, MOST_WORDS)


def check_row(thing):
    """Refuse what is no row."""
    if not is_row(thing):
        raise NoRow("a row is a tuple of 0 to 24 names")
