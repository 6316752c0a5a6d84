"""Trees as lists of nodes, so that what is alike in a tree may stand there once.

A node is a rule's number and a tuple of what stands in it: words, and the numbers of nodes ahead
of it in the list. The last node is the tree's top. A tree that is carried through changes may
have far more rules than nodes.
"""


class Pool:
    """A list of nodes; whoever makes them may note in marks which one stands for what."""

    def __init__(self):
        self.nodes = []
        self.marks = {}

    def put(self, number, inner):
        """Add a node; its number."""
        self.nodes.append((number, inner))
        return len(self.nodes) - 1


def pool_of(tree):
    """The nodes of a tree."""
    pool = Pool()
    ready = []
    for found in uppers_first(tree)[::-1]:
        if isinstance(found, str):
            ready.append(found)
        else:
            many = len(ready) - len(found[1])
            inner = tuple(ready[many:])
            del ready[many:]
            ready.append(pool.put(found[0], inner))
    return pool


def uppers_first(tree):
    """The tree and all within it, each ahead of what is in it, the right ones first."""
    order = []
    todo = [tree]
    while todo:
        found = todo.pop()
        order.append(found)
        if not isinstance(found, str):
            todo.extend(found[1])
    return order


def tree_of(pool):
    """The tree of a pool; what is alike is one tuple in it."""
    trees = []
    for number, inner in pool.nodes:
        trees.append((number, filled_in(trees, inner)))
    return trees[-1]


def size_of(pool):
    """How many rules the tree of a pool has, each counted as often as it stands there."""
    sizes = []
    for _, inner in pool.nodes:
        sizes.append(1 + sum([sizes[found] for found in inner if not isinstance(found, str)]))
    return sizes[-1]


def filled_in(values, inner):
    """What stands in a node, with these in the place of the numbers of nodes."""
    return tuple([found if isinstance(found, str) else values[found] for found in inner])


def carried(pool, stage, is_there):
    """The pool of the tree to which a stage of a change carries one, there or back."""
    out = Pool()
    values = []
    for number, inner in pool.nodes:
        if is_there:
            values.append(stage.there_at(out, number, filled_in(values, inner)))
        else:
            values.append(stage.back_at(out, number, filled_in(values, inner)))
    return cleared(out, stage.top_of(out, values[-1]))


def cleared(pool, top):
    """The pool with just the nodes that stand in a tree with this top."""
    used = {top: True}
    for at in range(top, -1, -1):
        if at in used:
            used.update({found: True for found in pool.nodes[at][1] if not isinstance(found, str)})
    out = Pool()
    values = {}
    for at in sorted(used):
        number, inner = pool.nodes[at]
        values[at] = out.put(number, filled_in(values, inner))
    return out
