"""The least tree of each word and fruitful part, by sizes that bounds.py tells."""

from paperreader.bounds import size_over


def trees_by(grammar, sizes):
    """For each name that has a least size a tree of that size; of those the one with the least steps.

    Two trees of a part by unlike rules have unlike steps from the first one on: so the least
    rule is enough. What is alike in these trees is one tuple.
    """
    numbers = least_rules(grammar, sizes)
    trees = {word: word for word in grammar.words}
    # A tree has more rules than those in it, and no fewer words: they stand ahead of it here.
    for _, part in sorted([(sizes[part], part) for part in numbers]):
        number = numbers[part]
        trees[part] = (number, tuple([trees[name] for name in grammar.rules[number][1]]))
    return trees


def least_rules(grammar, sizes):
    """For each part that has a least size the least rule by which it has that."""
    numbers = {}
    for number, (part, names) in enumerate(grammar.rules):
        if part not in numbers and all(name in sizes for name in names):
            if size_over([sizes[name] for name in names]) == sizes[part]:
                numbers[part] = number
    return numbers
