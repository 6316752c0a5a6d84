"""Trees written as texts, and read from them."""

from paperreader.errors import NoTree
from paperreader.trees import MOST_STEPS, is_tree

FIGURES = "0123456789"
MOST_FIGURES = 3


def tree_text(tree):
    """The text of a tree."""
    out = []
    todo = [tree]
    while todo:
        found = todo.pop()
        if isinstance(found, str):
            out.append(found)
        else:
            out.append(f"{found[0]}(")
            todo.append(")")
            todo.extend(parted_by_blanks(found[1])[::-1])
    return "".join(out)


def parted_by_blanks(trees):
    """The trees with a blank between each and the next one."""
    out = []
    for at, tree in enumerate(trees):
        if at > 0:
            out.append(" ")
        out.append(tree)
    return out


def read_tree(grammar, text):
    """The tree of the grammar that has this text; NoTree where none has."""
    if not isinstance(text, str):
        raise NoTree("no text")
    tree = tree_told(text)
    # What is told may be told loosely (a nought ahead, two blanks): only the tree's own text is read.
    if tree is None or not is_tree(grammar, tree) or tree_text(tree) != text:
        raise NoTree("the text of no tree")
    return tree


def tree_told(text):
    """The word, or the numbers and trees in brackets, that a text tells loosely, or None."""
    out = []
    opened = []
    many = 0
    for piece in pieces_of(text):
        if piece == "(":
            number = number_told(out.pop() if out else "")
            many += 1
            if number is None or many > MOST_STEPS:
                return None
            opened.append((out, number))
            out = []
        elif piece == ")":
            if not opened:
                return None
            trees = tuple(out)
            out, number = opened.pop()
            out.append((number, trees))
        else:
            out.append(piece)
    if opened or len(out) != 1:
        return None
    return out[0]


def pieces_of(text):
    """The brackets of a text, each alone, and what stands between them and the blanks."""
    for sign in "()":
        text = text.replace(sign, f" {sign} ")
    return text.split()


def number_told(piece):
    """The number that a piece tells by at most three figures, or None."""
    if not isinstance(piece, str) or not 1 <= len(piece) <= MOST_FIGURES:
        return None
    if not all(sign in FIGURES for sign in piece):
        return None
    return int(piece)
