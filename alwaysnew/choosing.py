"""Waiting for some letters, so that the state that goes live does less harm."""

from alwaysnew.harm import least_choice
from alwaysnew.running import quieted
from alwaysnew.statepairs import greatest, is_beyond, pair_harms
from alwaysnew.statesets import check_set, set_ways, sets_led


def sure_harm(machine, states, many, *, quiet=()):
    """Return the least harm of which one can be sure who waits for at most many letters, or None."""
    sure = _sure_harms(machine, states, quiet)
    return sure[min(many, len(sure) - 1)]


def best_wait(machine, states, *, quiet=()):
    """Return the pair of the least result of sure_harm, and the least number of letters that gives it; or None."""
    sure = _sure_harms(machine, states, quiet)
    return None if sure[-1] is None else (sure[-1], sure.index(sure[-1]))


def _sure_harms(machine, states, quiet):
    """Return the list of what sure_harm returns for 0, 1, .. letters, until more letters give nothing more."""
    check_set(machine, states)
    harms = pair_harms(quieted(machine, quiet))
    followers = {reached: sets_led(machine, reached) for reached in set_ways(machine, states)}
    now = {reached: _harm_now(machine, harms, reached) for reached in followers}
    before = {}
    sure = now
    results = []
    while sure != before:
        results.append(sure[states])
        before = sure
        sure = {reached: _lesser(now[reached], greatest([before[follower] for follower in followers[reached]]))
                for reached in now}
    return results


def _harm_now(machine, harms, states):
    choice = least_choice(machine, harms, states)
    return None if choice is None else choice[0]


def _lesser(one, other):
    """Return the lesser one of two numbers, of which each may have no bound."""
    return one if other is None or not is_beyond(one, other) else other
