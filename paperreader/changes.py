"""Changes: from a grammar to another one, with trees carried there and back."""

from paperreader.bounds import MOST_SHARED, check_told
from paperreader.errors import NoDeed, NoTree
from paperreader.pools import carried, pool_of, size_of, tree_of
from paperreader.trees import is_tree, root_of, row_of


class Change:
    """A change from the first grammar to the second one; exact ones carry each tree there and back to itself."""

    def __init__(self, first, second, stages, is_exact):
        self.first = first
        self.second = second
        self.stages = tuple(stages)
        self.is_exact = is_exact

    def there(self, tree):
        """The second grammar's tree for one of the first's start."""
        check_start_tree(self.first, tree)
        if any(stage.needs_words for stage in self.stages) and not row_of(tree):
            raise NoTree("no tree of the row of nothing is carried")
        pool = pool_of(tree)
        for stage in self.stages:
            pool = carried(pool, stage, True)
        return tree_of(pool)

    def back(self, tree):
        """The first grammar's tree for one of the second's start."""
        check_start_tree(self.second, tree)
        pool = pool_of(tree)
        for stage in self.stages[::-1]:
            pool = carried(pool, stage, False)
        check_told(self.first, 0, size_of(pool), MOST_SHARED)
        return tree_of(pool)

    def then(self, other):
        """The change of this one and another one behind it; NoDeed where that begins with other rules."""
        if other.first.rules != self.second.rules:
            raise NoDeed("the other change is of another grammar")
        return Change(self.first, other.second, self.stages + other.stages, self.is_exact and other.is_exact)


def check_start_tree(grammar, thing):
    """Refuse what is no tree of the start with at most 200 rules."""
    if not is_tree(grammar, thing) or root_of(grammar, thing) != grammar.start:
        raise NoTree("no tree of the start with at most 200 rules")


def change_by(grammar, stages, is_exact):
    """The change from a grammar by stages, one behind the other; TooMany where the last draft is too large."""
    return Change(grammar, stages[-1].draft.as_grammar(), stages, is_exact)
