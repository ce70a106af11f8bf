"""Papers that a set of quiet words is a least one."""

from alwaysnew.harm import least_harm
from alwaysnew.harmpapers import harm_paper
from alwaysnew.pairs import ordered_pair
from alwaysnew.quietsets import is_enough
from alwaysnew.running import quieted
from alwaysnew.statepairs import is_beyond, pair_harms, reading_with
from alwaysnew.statesets import check_set


def quiet_paper(machine, states, words, *, most=0):
    """Return a quiet paper, or None if words are not one of the least sets."""
    check_set(machine, states)
    # With fewer quiet words no harm is lesser: so it is enough to leave out one of them at a time.
    fewer = [tuple([name for name in words if name != word]) for word in words]
    if not is_enough(machine, states, words, most) or any([is_enough(machine, states, less, most) for less in fewer]):
        return None
    state = least_harm(machine, states, quiet=words)[1]
    bars = tuple([_bar(quieted(machine, less), states, most) for less in fewer])
    return (state, harm_paper(machine, state, states, quiet=words), bars)


def _bar(machine, states, most):
    """Return a tuple with, for each state, one of states and a reading in which more than most words are wrong."""
    harms = pair_harms(machine)
    pairs = []
    for state in range(len(machine[1])):
        others = [other for other in states if is_beyond(harms[ordered_pair(state, other)], most)]
        pairs.append((others[0], reading_with(machine, harms, (state, others[0]), most + 1)))
    return tuple(pairs)
