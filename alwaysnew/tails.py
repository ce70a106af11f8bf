"""How many letters must be kept so that a new machine is always ready."""

from alwaysnew.tailpairs import bad_pairs, check_letters, pair_ranks, pairs_before, rank_behind


def least_tail(old, new, *, quiet=()):
    """Return the least number of letters that is enough, or None if there is none."""
    check_letters(old, new)
    before = pairs_before(old, new)
    ranks = pair_ranks(before)
    bad = bad_pairs(new, before, quiet)
    if not all([pair in ranks for pair in bad]):
        return None
    return rank_behind(bad, ranks)
