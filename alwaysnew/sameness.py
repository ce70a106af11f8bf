"""Whether two machines say the same."""

from alwaysnew.alikeness import parting_reading


def says_the_same(one, other, *, quiet=()):
    """Return whether both machines say the same for each past."""
    return parting_past(one, other, quiet=quiet) is None


def parting_past(one, other, *, quiet=()):
    """Return the least of the shortest pasts whose last letter says different words in both, or None."""
    return parting_reading(side_by_side(one, other), 0, len(one[1]), quiet=quiet)


def side_by_side(one, other):
    """Return a machine with the states of one, and behind them those of other."""
    first = len(one[1])
    moved = [tuple([(first + follower, word) for follower, word in row]) for row in other[1]]
    return (one[0], (*one[1], *moved))
