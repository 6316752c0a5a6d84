"""Grammars in which no part begins with itself, and those in which each rule begins with a word."""

from paperreader.changes import change_by
from paperreader.drafts import NewNames, check_drafted
from paperreader.errors import NoGrammar, TooMany
from paperreader.filling import Filling
from paperreader.grammars import MOST_NAMES
from paperreader.looking import led_from, made_of
from paperreader.stages import Parting, Trimming, Unfolding
from paperreader.straightening import Straightening
from paperreader.turning import Turning

# Of rules of so many names none comes with more than a grammar's rules may have: a turned one has
# one name more, one that is unfolded then two turned ones less two names.
MOST_TURNED = 7
MOST_UNFOLDED = 4


def leftless(grammar):
    """The change to a grammar in which no part begins, by whatever rules, with itself."""
    return cornerless(grammar, False)


def worded(grammar):
    """The change to a grammar in which each rule begins with a word."""
    return cornerless(grammar, True)


def cornerless(grammar, is_worded):
    """The change by turning the corners: those by which a part comes back to itself, or all."""
    if not has_longer_text(grammar):
        raise NoGrammar("there is no text but the row of nothing")
    for most in (MOST_NAMES, MOST_UNFOLDED if is_worded else MOST_TURNED):
        try:
            return change_by(grammar, stages_of(grammar, most, is_worded), False)
        except TooMany:
            # Where rules are parted they are more at first, but shorter, and less comes of each.
            pass
    return change_by(grammar, stages_of(grammar, 2, is_worded), False)


def has_longer_text(grammar):
    """Whether there is a text of one word or more."""
    live = made_of(grammar, {word: True for word in grammar.words})
    uppers = {}
    for part, names in grammar.rules:
        if all(name in live for name in names):
            for name in names:
                uppers.setdefault(name, []).append(part)
    return grammar.start in led_from(uppers, list(grammar.words))


def stages_of(grammar, most, is_worded):
    """The stages of the change, with rules of more than so many names parted."""
    names = NewNames(grammar)
    stages = [Trimming(grammar)]
    if most < MOST_NAMES:
        stages.append(Parting(stages[-1].draft, names, most))
    stages.append(Filling(stages[-1].draft))
    check_drafted(stages[-1].draft.rules)
    stages.append(Straightening(stages[-1].draft))
    stages.append(Trimming(stages[-1].draft))
    check_drafted(stages[-1].draft.rules)
    draft = stages[-1].draft
    corners = corners_of(draft) if is_worded else corners_in_rings(draft)
    stages.append(Turning(draft, corners, names, [draft.start]))
    if is_worded:
        draft = stages[-1].draft
        stages.append(Unfolding(draft, {number: 0 for number in corners_of(draft)}))
        stages.append(Trimming(stages[-1].draft))
    return stages


def corners_of(grammar):
    """The rules that begin with a part."""
    return {number: True for number, rule in enumerate(grammar.rules) if rule[1] and grammar.has_part(rule[1][0])}


def corners_in_rings(grammar):
    """The rules that begin with a part that begins, by whatever rules, with the rule's own."""
    begun = {}
    by_corner = {}
    for number in corners_of(grammar):
        part, names = grammar.rules[number]
        begun.setdefault(part, []).append(names[0])
        by_corner.setdefault(names[0], []).append(number)
    found = {}
    for corner in by_corner:
        reached = led_from(begun, [corner])
        found.update({number: True for number in by_corner[corner] if grammar.rules[number][0] in reached})
    return found
