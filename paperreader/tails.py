"""What stands in rules behind their first names."""


def tails_of(rules):
    """All that stands behind some of the first names in rules, each once, the shorter ones first."""
    found = {}
    for _, names in rules:
        for at in range(len(names) + 1):
            found[names[at:]] = True
    return sorted(found, key=len)
