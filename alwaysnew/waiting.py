"""How long a version can have to wait until it is ready."""

from alwaysnew.alikeness import classes_of
from alwaysnew.running import past_along
from alwaysnew.statepairs import greatest, pair_waits
from alwaysnew.statesets import are_ready, check_set, set_ways


def soonest(machine, states, *, quiet=()):
    """Return the least of the shortest readings that lead states to ready ones, or None if there is none."""
    check_set(machine, states)
    classes = classes_of(machine, quiet=quiet)
    ways = set_ways(machine, states)
    ready = [reached for reached in ways if are_ready(classes, reached)]
    return past_along(ways, ready[0]) if ready else None


def latest(machine, states, *, quiet=()):
    """Return the least number of letters that lead states to ready ones, whatever they are; None if there is none."""
    check_set(machine, states)
    return set_wait(pair_waits(machine, quiet), states)


def set_wait(waits, states):
    """Return what latest returns, for what pair_waits returns."""
    return greatest([waits[(one, other)] for one in states for other in states if one <= other])
