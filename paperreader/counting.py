"""How many trees a row has, those that can be pumped, and the first ones in order."""

from paperreader.bounds import check_told
from paperreader.errors import NoDeed, NoTree, TooMany
from paperreader.fewest import Fewest, Ways
from paperreader.forests import forest_of, inner_first
from paperreader.inorder import InOrder
from paperreader.looking import rings
from paperreader.names import check_row, is_number, is_number_below
from paperreader.trees import check_tree, root_of, row_of

MOST_TREES = 12
MOST_TIMES = 5
MOST_BITS = 1000000


def how_many(grammar, row):
    """How many trees the row has, or None where they never end."""
    check_row(row)
    forest = forest_of(grammar, row)
    if nodes_in_rings(forest):
        return None
    counts = {}
    for node in inner_first(forest):
        counts[node] = sum([many_of(counts, choice) for choice in forest.choices[node]])
        # Each of these trees stands in other ones of the row: those are as many at least.
        if counts[node].bit_length() > MOST_BITS:
            raise TooMany("more trees than can be counted")
    return counts[0]


def many_of(counts, choice):
    """How many trees come of a choice, from how many come of its nodes."""
    many = 1
    for node in choice:
        many = many * counts[node]
    return many


def nodes_in_rings(forest):
    """The nodes of parts in rings; where one stands in a tree, that tree can be pumped."""
    ringed = {part: True for part in rings(forest.grammar)}
    return [node for node, mark in enumerate(forest.marks) if forest.choices[node] and mark[0] in ringed]


def pumped(grammar, row):
    """None, or a tree of the row with two paths in it: the part at both is the same, and its row."""
    check_row(row)
    forest = forest_of(grammar, row)
    nodes = nodes_in_rings(forest)
    if not nodes:
        return None
    fewest = Fewest(forest)
    down = Ways(fewest, 0, False)
    node, ring = cheapest_ring(fewest, down, nodes)
    tree, behind = ring.tree_with(node, fewest.trees[node])
    ahead = ()
    if node != 0:
        tree, ahead = down.tree_with(node, tree)
    size = fewest.counts[node] + ring.costs[node] + cost_down_to(down, node)
    check_told(grammar, fewest.counts[0], size)
    return (tree, ahead, ahead + behind)


def cost_down_to(down, node):
    """How many rules stand beside a node's tree at least, in a tree of the top."""
    return 0 if node == down.top else down.costs[node]


def cheapest_ring(fewest, down, nodes):
    """The node whose least tree within itself makes the least tree of the row, and the ways back to it."""
    # What a ring costs is the same wherever its part is read: one place of each part will do.
    nearest = {}
    for node in nodes:
        part = fewest.forest.marks[node][0]
        size = fewest.counts[node] + cost_down_to(down, node)
        nearest[part] = min(nearest.get(part, (size, node)), (size, node))
    best = None
    for size, node in nearest.values():
        ring = Ways(fewest, node, True)
        if best is None or size + ring.costs[node] < best[0]:
            best = (size + ring.costs[node], node, ring)
    return best[1], best[2]


def pump(grammar, tree, outer, inner, times):
    """The tree in which the tree at inner gives way so often to the one at outer."""
    check_tree(grammar, tree)
    if not is_path(tree, outer) or not is_path(tree, inner):
        raise NoTree("no paths in the tree")
    if len(outer) >= len(inner) or inner[:len(outer)] != outer:
        raise NoTree("the outer path is no beginning of the inner one")
    whole = tree_at(tree, outer)
    part = tree_at(tree, inner)
    if root_of(grammar, part) != root_of(grammar, whole) or row_of(part) != row_of(whole):
        raise NoTree("the trees at the paths are not of one part with one row")
    if not is_number_below(times, MOST_TIMES + 1):
        raise NoDeed("a tree is pumped 0 to 5 times")
    for _ in range(times):
        part = with_tree_at(whole, inner[len(outer):], part)
    return with_tree_at(tree, inner, part)


def is_path(tree, thing):
    """Whether a thing is a path in the tree, to a tree of a part or to a word."""
    if not isinstance(thing, tuple):
        return False
    for at in thing:
        if isinstance(tree, str) or not is_number_below(at, len(tree[1])):
            return False
        tree = tree[1][at]
    return True


def tree_at(tree, path):
    """The tree at a path."""
    for at in path:
        tree = tree[1][at]
    return tree


def with_tree_at(tree, path, inner):
    """The tree in which another one stands at the path."""
    uppers = []
    for at in path:
        uppers.append(tree)
        tree = tree[1][at]
    for upper, at in zip(uppers[::-1], path[::-1]):
        inner = (upper[0], upper[1][:at] + (inner,) + upper[1][at + 1:])
    return inner


def first_trees(grammar, row, most):
    """The first trees of the row, in order, at most so many (1 to 12)."""
    check_row(row)
    if not is_number(most) or not 1 <= most <= MOST_TREES:
        raise NoDeed("1 to 12 trees are told")
    forest = forest_of(grammar, row)
    if not forest.choices[0]:
        return []
    ordered = InOrder(forest, Fewest(forest), row)
    trees = []
    tree = ordered.next_tree()
    while tree is not None:
        trees.append(tree)
        tree = ordered.next_tree() if len(trees) < most else None
    return trees
