"""Papers that a number of kept letters is enough, or that none is."""

from alwaysnew.alikeness import parting_reading
from alwaysnew.rings import ring_behind
from alwaysnew.standings import past_to_standing, standing_led
from alwaysnew.tailpairs import bad_pairs, check_letters, pair_ranks, pairs_before


def tail_paper(old, new, *, quiet=()):
    """Return a tail paper of the two machines."""
    check_letters(old, new)
    before = pairs_before(old, new)
    ranks = pair_ranks(before)
    endless = [pair for pair in bad_pairs(new, before, quiet) if pair not in ranks]
    if not endless:
        return ("enough", tuple([(*pair, ranks[pair]) for pair in before if pair in ranks]))
    versions = (old, new)
    (one, other), ring, rest = _ring_before(before, ranks, endless[0])
    if standing_led(versions, one, ring) != one:
        # The ring exchanges the two standings: read twice it leads both to themselves.
        ring = (*ring, *ring)
    one_end, other_end = standing_led(versions, one, rest), standing_led(versions, other, rest)
    reading = parting_reading(new, one_end[1], other_end[1], quiet=quiet)
    return ("never", past_to_standing(versions, one), past_to_standing(versions, other), ring, rest, reading)


def _ring_before(before, ranks, bad):
    """Return a pair, a ring that leads it to itself, and a rest that leads it to the bad pair, which has no rank."""

    def onward(place):
        """Return a pair without a rank that a letter leads to the place, and this letter."""
        earlier = [one for one in before[place] if one not in ranks][0]
        return (earlier, (before[place][earlier],))

    # A pair without a rank has one such pair before it: so going back, some pair comes again.
    pair, rest, ring = ring_behind(bad, onward)
    return (pair, ring[::-1], rest[::-1])
