"""Pairs of two different things, the lesser one first, and how they stand in papers."""


def ordered_pair(one, other):
    """Return the pair of both, the lesser one first."""
    return (min(one, other), max(one, other))


def are_paired(one, other, pairs):
    """Return whether one and other are equal, or one of the pairs."""
    return one == other or ordered_pair(one, other) in pairs


def rises(rows, at):
    """Return whether the row at this place is greater than the one before, if there is one."""
    return at == 0 or rows[at - 1] < rows[at]
