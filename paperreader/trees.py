"""Trees: a word, or a tuple of a rule's number and a tuple of trees.

Trees may be nested some hundreds deep, so none of these functions calls itself.
"""

from paperreader.errors import NoTree
from paperreader.names import is_number_below

MOST_STEPS = 200


def is_tree(grammar, thing):
    """Whether a thing is a tree of the grammar with at most 200 rules."""
    todo = [(None, thing)]
    many = 0
    while todo:
        name, found = todo.pop()
        if isinstance(found, str):
            if not grammar.has_word(found) or name not in (None, found):
                return False
        elif many == MOST_STEPS or not is_top(grammar, name, found):
            return False
        else:
            many += 1
            todo.extend(list(zip(grammar.rules[found[0]][1], found[1])))
    return True


def is_top(grammar, name, thing):
    """Whether a thing is a rule of the name (None: of any) and as many things as it has names."""
    if not isinstance(thing, tuple) or len(thing) != 2:
        return False
    number, trees = thing
    if not is_number_below(number, len(grammar.rules)) or not isinstance(trees, tuple):
        return False
    return len(trees) == grammar.length_of(number) and name in (None, grammar.rules[number][0])


def check_tree(grammar, thing):
    """Refuse what is no tree."""
    if not is_tree(grammar, thing):
        raise NoTree("no tree of the grammar with at most 200 rules")


def root_of(grammar, tree):
    """The word or part of which a tree is one."""
    if isinstance(tree, str):
        return tree
    return grammar.rules[tree[0]][0]


def row_of(tree):
    """The words of a tree, from the left."""
    return tuple([found for found in laid_out(tree) if isinstance(found, str)])


def rules_in(tree):
    """How many rules a tree has."""
    return len(steps_of(tree))


def steps_of(tree):
    """The numbers of a tree's rules, each ahead of those within its trees."""
    return tuple([found for found in laid_out(tree) if not isinstance(found, str)])


def laid_out(tree):
    """The rules' numbers and the words of a tree, each rule ahead of what is in its trees."""
    out = []
    todo = [tree]
    while todo:
        found = todo.pop()
        if isinstance(found, str):
            out.append(found)
        else:
            out.append(found[0])
            todo.extend(found[1][::-1])
    return out


def tree_by(grammar, steps):
    """The start's tree of such steps; NoTree where they tell none."""
    if not isinstance(steps, tuple) or not 1 <= len(steps) <= MOST_STEPS:
        raise NoTree("the steps of a tree are a tuple of 1 to 200 numbers")
    if not all(is_number_below(step, len(grammar.rules)) for step in steps):
        raise NoTree("a step is the number of a rule")
    tree = tree_along(grammar, steps)
    if tree is None or root_of(grammar, tree) != grammar.start:
        raise NoTree("no tree of the start has such steps")
    return tree


def tree_along(grammar, steps):
    """The tree of a part that has such steps, or None; steps are numbers of rules."""
    ready = []
    for step in steps[::-1]:
        trees = trees_taken(grammar, grammar.rules[step][1], ready)
        if trees is None:
            return None
        ready.append((step, trees))
    if len(ready) != 1:
        return None
    return ready[0]


def trees_taken(grammar, names, ready):
    """A tree for each name, those of parts taken off the end of what is ready; None where one isn't there."""
    trees = []
    for name in names:
        if not grammar.has_part(name):
            trees.append(name)
        elif ready and root_of(grammar, ready[-1]) == name:
            trees.append(ready.pop())
        else:
            return None
    return tuple(trees)


def is_ahead(one, other):
    """Whether one tree comes ahead of the other: by fewer rules, else by lesser steps."""
    first = steps_of(one)
    second = steps_of(other)
    return (len(first), first) < (len(second), second)
