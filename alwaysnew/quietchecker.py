"""The checker of quiet papers."""

from alwaysnew.errors import InvalidPaper
from alwaysnew.harmchecker import lets_harm
from alwaysnew.kinds import is_number, is_reading
from alwaysnew.running import are_letters, is_state, wrong_words
from alwaysnew.statepairs import is_beyond
from alwaysnew.statesets import check_set


def lets_quiet(machine, states, words, thing, *, most=0):
    """Return the harm that a right paper states with these quiet words; raise InvalidPaper for any other value."""
    check_set(machine, states)
    if not _has_shape(thing):
        raise InvalidPaper("shape", -1)
    state, paper, bars = thing
    if not is_state(machine, state):
        raise InvalidPaper("state", -1)
    harm = _stated_harm(machine, state, states, words, paper)
    if is_beyond(harm, most):
        raise InvalidPaper("harm", -1)
    if len(bars) != len(words) or not all([len(bar) == len(machine[1]) for bar in bars]):
        raise InvalidPaper("many", -1)
    for at in range(len(bars)):
        less = tuple([word for word in words if word != words[at]])
        for one in range(len(bars[at])):
            if not _is_barred(machine, one, states, bars[at][one], less, most):
                raise InvalidPaper("bar", (at, one))
    return harm


def _has_shape(thing):
    if not isinstance(thing, tuple) or len(thing) != 3 or not is_number(thing[0]) or not isinstance(thing[2], tuple):
        return False
    return all([isinstance(bar, tuple) and all([_is_pair(pair) for pair in bar]) for bar in thing[2]])


def _is_pair(thing):
    return isinstance(thing, tuple) and len(thing) == 2 and is_number(thing[0]) and is_reading(thing[1])


def _stated_harm(machine, state, states, words, paper):
    try:
        return lets_harm(machine, state, states, paper, quiet=words)
    except InvalidPaper:
        raise InvalidPaper("harm", -1) from None


def _is_barred(machine, one, states, pair, quiet, most):
    """Return whether the pair shows that more than most words can be wrong if the state one goes live."""
    other, reading = pair
    if other not in states or not are_letters(machine[0], reading):
        return False
    return wrong_words(machine, one, other, reading, quiet) > most
