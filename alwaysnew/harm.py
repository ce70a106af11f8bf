"""How many words can be wrong if a state goes live that may not be the true one."""

from alwaysnew.pairs import ordered_pair
from alwaysnew.running import check_state, quieted
from alwaysnew.statepairs import greatest, pair_harms, pair_waits
from alwaysnew.statesets import check_set


def harm_of(machine, one, states, *, quiet=()):
    """Return the harm of the state one for states, or None if it has no bound."""
    check_state(machine, one)
    check_set(machine, states)
    return greatest_with(pair_harms(quieted(machine, quiet)), one, states)


def least_harm(machine, states, *, quiet=()):
    """Return the pair of the least harm that a state has for states, and the least such state; None without any."""
    check_set(machine, states)
    return least_choice(machine, pair_harms(quieted(machine, quiet)), states)


def heals_within(machine, one, states, *, quiet=()):
    """Return the least number of letters after which one is alike with each of states, whatever is read, or None."""
    check_state(machine, one)
    check_set(machine, states)
    return greatest_with(pair_waits(machine, quiet), one, states)


def least_choice(machine, harms, states):
    """Return what least_harm returns, for what pair_harms returns."""
    choices = [(greatest_with(harms, state, states), state) for state in range(len(machine[1]))]
    return min([choice for choice in choices if choice[0] is not None], default=None)


def greatest_with(numbers, one, states):
    """Return the greatest number of the pairs of one and each of states; numbers gives those of all pairs."""
    return greatest([numbers[ordered_pair(one, state)] for state in states])
