"""The first tree of a part, and whether the texts never end."""

from paperreader.bounds import MOST_SHARED, check_told, first_sizes
from paperreader.descents import Below, Descents
from paperreader.errors import NoPart
from paperreader.leasttrees import trees_by


def first_tree(grammar, part):
    """The first of all trees of a part that have a row of fewest words; None where it has none."""
    if not grammar.has_part(part):
        raise NoPart("no part of the grammar")
    sizes = first_sizes(grammar)
    if part not in sizes:
        return None
    check_told(grammar, sizes[part][1], sizes[part][1], MOST_SHARED)
    return trees_by(grammar, sizes)[part]


def endless(grammar):
    """None, or (tree, outer, inner): two paths in a tree of the start, to one part, the outer one's row longer."""
    descents = Descents(grammar)
    if grammar.start not in descents.counts:
        return None
    down = Below(descents, grammar.start)
    size, part, ring = least_ring(descents, down)
    if part is None:
        return None
    check_told(grammar, 0, size, MOST_SHARED)
    tree, behind = ring.tree_with((part, True), descents.trees[part])
    tree, ahead = down.tree_with((part, False), tree)
    return (tree, ahead, ahead + behind)


def least_ring(descents, down):
    """The least tree's size, its part that stands within itself beside a word, and what is below that part.

    Where there is no such part all three are None.
    """
    sizes = []
    for part in descents.parts_in_rings():
        if (part, False) in down.costs:
            sizes.append((down.costs[(part, False)] + descents.counts[part], part))
    best = (None, None, None)
    for size, part in sorted(sizes):
        if best[0] is None or size < best[0]:
            ring = Below(descents, part)
            cost = ring.costs.get((part, True))
            if cost is not None and (best[0] is None or size + cost < best[0]):
                best = (size + cost, part, ring)
    return best
