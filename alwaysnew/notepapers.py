"""Papers that so many notes are needed."""

from alwaysnew.alikeness import are_alike, parting_reading
from alwaysnew.notebooks import kinds_at_hand, most_kinds
from alwaysnew.running import least_ways, past_along


def needs_paper(versions, hand, wanted, *, quiet=()):
    """Return a needs paper with as many pasts as possible."""
    together = kinds_at_hand(versions, hand, wanted, quiet)
    most = most_kinds(together)
    groups = [list(together[at_hand].values()) for at_hand in together if len(together[at_hand]) == most]
    standings = groups[0]
    partings = []
    for at in range(most):
        for other in standings[at + 1:]:
            partings.append(_parting(versions, wanted, standings[at], other, quiet))
    ways = least_ways(versions)
    return (tuple([past_along(ways, standing) for standing in standings]), tuple(partings))


def _parting(versions, wanted, one, other, quiet):
    unlike = [i for i in wanted if not are_alike(versions[i], one[i], other[i], quiet=quiet)]
    i = unlike[0]
    return (i, parting_reading(versions[i], one[i], other[i], quiet=quiet))
