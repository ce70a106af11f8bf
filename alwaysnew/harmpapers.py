"""Papers of the harm that a state does."""

from alwaysnew.alikeness import parting_way
from alwaysnew.harm import greatest_with
from alwaysnew.pairs import ordered_pair
from alwaysnew.rings import ring_behind
from alwaysnew.running import check_state, quieted
from alwaysnew.statepairs import pair_harms, pair_led, reading_with
from alwaysnew.statesets import check_set


def harm_paper(machine, one, states, *, quiet=()):
    """Return a harm paper of the state one for states."""
    check_state(machine, one)
    check_set(machine, states)
    quiet_machine = quieted(machine, quiet)
    return paper_of(quiet_machine, pair_harms(quiet_machine), one, states)


def paper_of(machine, harms, one, states):
    """Return what harm_paper returns, for a machine without quiet words and what pair_harms returns for it."""
    harm = greatest_with(harms, one, states)
    other = [state for state in states if harms[ordered_pair(one, state)] == harm][0]
    if harm is None:
        return ("without", other, *_endless(machine, harms, (one, other)))
    rows = [(*pair, harms[pair]) for pair in harms if pair[0] < pair[1] and harms[pair] is not None]
    return ("most", other, reading_with(machine, harms, (one, other), harm), tuple(sorted(rows)))


def _endless(machine, harms, pair):
    """Return a reading, and a ring behind it with a wrong word, of a pair whose harm has no bound."""
    goals = {goal: True for goal in harms if harms[goal] is None}

    def onward(place):
        """Return the states to which a reading with a wrong word leads, again without a bound, and this reading."""
        way = parting_way(machine, place[0], place[1], goals)
        return (pair_led(machine, place, way), way)

    return ring_behind(pair, onward)[1:]
