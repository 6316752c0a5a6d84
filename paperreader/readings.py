"""Rows read: a tree, or a chart that shows that there is none."""

from paperreader.bounds import check_told
from paperreader.charts import chart_of
from paperreader.columns import columns_of
from paperreader.fewest import Fewest
from paperreader.forests import Forest
from paperreader.names import check_row


def reading(grammar, row):
    """("tree", a tree of fewest rules), or ("chart", a chart that refuses the row)."""
    check_row(row)
    columns = columns_of(grammar, row)
    forest = Forest(grammar, columns)
    if not forest.choices[0]:
        return ("chart", chart_of(columns))
    fewest = Fewest(forest)
    check_told(grammar, fewest.counts[0], fewest.counts[0])
    return ("tree", fewest.trees[0])
