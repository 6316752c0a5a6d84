"""Rows read: a tree, or a chart that shows that there is none."""

from paperreader.bounds import MOST_SHARED, check_told
from paperreader.charts import chart_of
from paperreader.columns import columns_of
from paperreader.fewest import Fewest
from paperreader.forests import Forest
from paperreader.names import check_row


def reading(grammar, row):
    """("tree", a tree of fewest rules), or ("chart", a chart that refuses the row)."""
    check_row(row)
    columns = columns_of(grammar, row)
    tree = least_tree(grammar, columns)
    return ("chart", chart_of(columns)) if tree is None else ("tree", tree)


def least_tree(grammar, columns):
    """A tree of fewest rules of the row that has these columns, or None where it has none."""
    forest = Forest(grammar, columns)
    if not forest.choices[0]:
        return None
    fewest = Fewest(forest)
    check_told(grammar, fewest.counts[0], fewest.counts[0], MOST_SHARED)
    return fewest.trees[0]
