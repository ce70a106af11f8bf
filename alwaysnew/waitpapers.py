"""Papers of how long a version can have to wait until it is ready."""

from alwaysnew.rings import ring_behind
from alwaysnew.statepairs import pair_waits
from alwaysnew.statesets import check_set, set_led, set_ways
from alwaysnew.waiting import set_wait


def wait_paper(machine, states, *, quiet=()):
    """Return a wait paper for states."""
    check_set(machine, states)
    waits = pair_waits(machine, quiet)
    if set_wait(waits, states) is None:
        return ("forever", *_endless(machine, waits, states))
    rows = [(reached, set_wait(waits, reached)) for reached in set_ways(machine, states)]
    return ("within", tuple(sorted([row for row in rows if row[1] > 0])))


def _endless(machine, waits, states):
    """Return a reading, and a ring behind it, on which states are never ready."""

    def onward(reached):
        """Return a set to which a letter leads, again one that can be put off for ever, and this letter."""
        moves = [(set_led(machine, reached, (letter,)), (letter,)) for letter in machine[0]]
        return [move for move in moves if set_wait(waits, move[0]) is None][0]

    return ring_behind(states, onward)[1:]
