"""Ascending lists of some of many indexes."""


def sets_of(many):
    """Return all ascending lists of some of that many indexes, by their number, then as lists."""
    found = [[]]
    for k in range(many):
        found = found + [chosen + [k] for chosen in found]
    return sorted(found, key=ordered)


def ordered(chosen):
    """Return by what lists are put in order."""
    return len(chosen), chosen
