"""What the tests find out by themselves, by plain and slow ways, to hold the program against it."""

import random

from paperreader.grammars import Grammar

THINGS = [
    None, True, False, 0, 1, -1, 10 ** 40, "", "a", "A b", "=", b"", b"a", [], ["a"], {}, {"a": 1}, set(), {"a"},
    (), ("a",), ("a", ("b",)), ("a", ["b"]), ["a", ("b",)], (0, ()), (0, []), [0, ()], (True, ()), (0, (), ()),
    (0,), (("s", ()),), [("s", ())], [[]], [None], (None,), ((),), (((),),), object(), len, ValueError, range(3),
    (0, 0, 0), ((0, 0, 0),), (((0, 0, 0),),), "0()", "0(", ")", {1: [2]}, ({},), ([],), [{}], iter([]), "s", ("s",),
]


class Odd:
    """A thing that is like nothing, not even to be compared."""

    __hash__ = None

    def __eq__(self, other):
        raise RuntimeError("compared")


def things():
    """Things of many kinds, new ones each time."""
    return THINGS + [Odd(), [Odd()], (Odd(), Odd()), (Odd(), ()), (0, (Odd(),)), ((Odd(),),), nested(250)]


def nested(depth):
    """A tuple nested so deep."""
    thing = ()
    for _ in range(depth):
        thing = (0, (thing,))
    return thing


def grammar_of(text):
    """A grammar told shortly: rules parted by semicolons."""
    rules = []
    for row in text.split(";"):
        part, _, names = row.partition("=")
        rules.append((part.strip(), tuple(names.split())))
    return Grammar(rules)


def chain_rules(many, back=False):
    """A chain of so many rules, each part leading to the next one; the last one is the word w."""
    names = [name_of(number) for number in range(many)]
    rules = [(names[at], (names[at + 1],)) for at in range(many - 1)] + [(names[-1], ("w",))]
    if back:
        rules = rules[:1] + rules[:0:-1]
    return rules


def name_of(number):
    """A name for each number, none of them a word of the tests."""
    return "q" + "".join("abcdefghij"[int(figure)] for figure in str(number))


def random_grammar(chance, parts=3, words=2, most_rules=7, most_names=3):
    """A small grammar, by a chance that is the same in each run."""
    names = ["s", "t", "u", "v", "p", "q"][:parts]
    texts = ["a", "b", "c", "d"][:words]
    rules = []
    for _ in range(chance.randint(1, most_rules)):
        part = chance.choice(names) if rules else "s"
        behind = [chance.choice(names + texts + texts) for _ in range(chance.randint(0, most_names))]
        if (part, tuple(behind)) not in rules:
            rules.append((part, tuple(behind)))
    return Grammar(rules)


def random_row(chance, grammar, most):
    """A row of words of the grammar, now and then of another one or a part."""
    words = list(grammar.words) * 3 + ["z", grammar.start]
    return tuple(chance.choice(words) for _ in range(chance.randint(0, most)))


def chances(many, seed):
    """So many chances, the same in each run."""
    return [random.Random(f"{seed} {number}") for number in range(many)]


def least_by_points(grammar, row):
    """The least closed chart, by the four points until nothing comes of them."""
    columns = [set() for _ in range(len(row) + 1)]
    while True:
        asked = asked_by_points(grammar, row, columns)
        new = [(place, item) for place, item in asked if item not in columns[place]]
        if not new:
            return tuple(tuple(sorted(column)) for column in columns)
        for place, item in new:
            columns[place].add(item)


def asked_by_points(grammar, row, columns):
    """All that the four points ask for, as pairs (place, item)."""
    rules = grammar.rules
    asked = [(0, (k, 0, 0)) for k, rule in enumerate(rules) if rule[0] == rules[0][0]]
    parts = {rule[0] for rule in rules}
    for place, column in enumerate(columns):
        for k, dot, begin in column:
            part, names = rules[k]
            if dot == len(names):
                for m, d, f in columns[begin]:
                    if d < len(rules[m][1]) and rules[m][1][d] == part:
                        asked.append((place, (m, d + 1, f)))
            elif names[dot] in parts:
                asked += [(place, (m, 0, place)) for m, rule in enumerate(rules) if rule[0] == names[dot]]
            elif place < len(row) and row[place] == names[dot]:
                asked.append((place + 1, (k, dot + 1, begin)))
    return asked


def is_closed_by_points(grammar, row, chart):
    """Whether a well-formed chart has all that the four points ask for."""
    return all(item in chart[place] for place, item in asked_by_points(grammar, row, chart))


def refuses_by_points(grammar, row, chart):
    """Whether a well-formed chart is closed and does not have the start read whole."""
    whole = any(
        begin == 0 and grammar.rules[k][0] == grammar.rules[0][0] and dot == len(grammar.rules[k][1])
        for k, dot, begin in chart[-1]
    )
    return is_closed_by_points(grammar, row, chart) and not whole


def is_tree_of(grammar, name, tree):
    """Whether a tree is one of that name, looked at rule by rule."""
    todo = [(name, tree)]
    while todo:
        name, tree = todo.pop()
        if isinstance(tree, str):
            if tree != name or any(rule[0] == name for rule in grammar.rules):
                return False
            continue
        part, names = grammar.rules[tree[0]]
        if part != name or len(names) != len(tree[1]):
            return False
        todo += list(zip(names, tree[1]))
    return True


def words_in(tree):
    """The row of a tree."""
    if isinstance(tree, str):
        return (tree,)
    out = ()
    for inner in tree[1]:
        out += words_in(inner)
    return out


def order_of(tree):
    """How many rules a tree has, and its steps."""
    steps = steps_in(tree)
    return (len(steps), steps)


def steps_in(tree):
    """The numbers of the rules of a tree."""
    if isinstance(tree, str):
        return ()
    out = (tree[0],)
    for inner in tree[1]:
        out += steps_in(inner)
    return out


def trees_by_size(grammar, most):
    """For each size up to most the trees of each part with so many rules."""
    by_size = [{} for _ in range(most + 1)]
    parts = {rule[0] for rule in grammar.rules}
    for size in range(1, most + 1):
        for k, (part, names) in enumerate(grammar.rules):
            for trees in tree_rows(by_size, parts, names, size - 1):
                by_size[size].setdefault(part, []).append((k, trees))
    return by_size


def tree_rows(by_size, parts, names, size):
    """The tuples of trees for the names, with so many rules together."""
    if not names:
        return [()] if size == 0 else []
    if names[0] not in parts:
        return [(names[0],) + rest for rest in tree_rows(by_size, parts, names[1:], size)]
    found = []
    for first in range(1, size + 1):
        trees = by_size[first].get(names[0], [])
        if trees:
            for rest in tree_rows(by_size, parts, names[1:], size - first):
                found += [(tree,) + rest for tree in trees]
    return found


def start_trees(grammar, most):
    """All trees of the start with at most so many rules, in order."""
    found = []
    for level in trees_by_size(grammar, most):
        found += level.get(grammar.rules[0][0], [])
    return sorted(found, key=order_of)


def is_pumpable(grammar, tree):
    """Whether a tree has a tree of a part within another one of it, with the same row."""
    return any(
        grammar.rules[outer[0]][0] == grammar.rules[inner[0]][0] and words_in(outer) == words_in(inner)
        for outer in inner_trees(tree) for inner in inner_trees(outer)[1:]
    )


def inner_trees(tree):
    """A tree and all trees of parts within it."""
    if isinstance(tree, str):
        return []
    found = [tree]
    for inner in tree[1]:
        found += inner_trees(inner)
    return found


def plain_trees(grammar, row):
    """All trees of a row in which no part stands within itself with the same words of the row."""
    return plain_of(grammar, row, grammar.rules[0][0], 0, len(row), ())


def plain_of(grammar, row, name, begin, end, above):
    """All such trees of a name for these words, beneath these (part, begin, end)."""
    numbers = [k for k, rule in enumerate(grammar.rules) if rule[0] == name]
    if not numbers:
        return [name] if row[begin:end] == (name,) else []
    if (name, begin, end) in above:
        return []
    above = above + ((name, begin, end),)
    found = []
    for k in numbers:
        found += [(k, trees) for trees in plain_rows(grammar, row, grammar.rules[k][1], begin, end, above)]
    return found


def plain_rows(grammar, row, names, begin, end, above):
    """All tuples of such trees of the names for these words."""
    if not names:
        return [()] if begin == end else []
    found = []
    for middle in range(begin, end + 1):
        rests = plain_rows(grammar, row, names[1:], middle, end, above)
        if rests:
            for first in plain_of(grammar, row, names[0], begin, middle, above):
                found += [(first,) + rest for rest in rests]
    return found


def tree_within(tree, path):
    """The tree at a path."""
    for at in path:
        tree = tree[1][at]
    return tree


def samples(many, seed):
    """Small grammars with a row for each; many of the rows are texts."""
    for chance in chances(many, seed):
        grammar = random_grammar(chance, parts=chance.randint(1, 4), words=chance.randint(1, 2))
        trees = [tree for tree in start_trees(grammar, 4) if len(words_in(tree)) <= 4]
        if trees and chance.random() < 0.7:
            yield grammar, words_in(chance.choice(trees))
        else:
            yield grammar, random_row(chance, grammar, 4)
