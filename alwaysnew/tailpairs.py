"""The pairs of standings that an old and a new machine cannot tell apart by the letters that are kept."""

from alwaysnew.alikeness import classes_of
from alwaysnew.errors import InvalidKnowledge
from alwaysnew.pairs import ordered_pair
from alwaysnew.running import standing_moved
from alwaysnew.standings import reached_standings


def check_letters(old, new):
    """Raise InvalidKnowledge if the machines have other letters."""
    if old[0] != new[0]:
        raise InvalidKnowledge("letters", 1)


def pairs_before(old, new):
    """Return a dict of all pairs, ascending; it gives for each a dict of the pairs that a letter leads to it.

    That dict gives for each of them the first such letter.
    """
    versions = (old, new)
    reached = reached_standings(versions)
    pairs = [(reached[at], other) for at in range(len(reached)) for other in reached[at + 1:]]
    before = {pair: {} for pair in pairs}
    for pair in pairs:
        one, other = pair
        for place in range(len(old[0])):
            follower = ordered_pair(standing_moved(versions, one, place), standing_moved(versions, other, place))
            if follower in before and pair not in before[follower]:
                before[follower][pair] = old[0][place]
    return before


def bad_pairs(new, pairs, quiet):
    """Return the list of those pairs that have equal old states, and new ones that are not alike."""
    classes = classes_of(new, quiet=quiet)
    return [(one, other) for one, other in pairs if one[0] == other[0] and classes[one[1]] != classes[other[1]]]


def pair_ranks(before):
    """Return a dict of the ranks of the pairs: the greatest number of letters of a reading that leads a pair to it.

    A pair to which a ring leads has no rank.
    """
    after = {pair: [] for pair in before}
    for pair in before:
        for earlier in before[pair]:
            after[earlier].append(pair)
    missing = {pair: len(before[pair]) for pair in before}
    order = [pair for pair in before if not before[pair]]
    ranks = {}
    while len(ranks) < len(order):
        pair = order[len(ranks)]
        ranks[pair] = rank_behind(before[pair], ranks)
        for follower in after[pair]:
            missing[follower] = missing[follower] - 1
            if missing[follower] == 0:
                order.append(follower)
    return ranks


def rank_behind(earlier, ranks):
    """Return the rank of a pair to which a letter leads just these earlier pairs, which have ranks."""
    return max([ranks[pair] + 1 for pair in earlier], default=0)
