"""The checker of choice papers."""

from alwaysnew.errors import InvalidPaper
from alwaysnew.harmchecker import lets_harm
from alwaysnew.kinds import are_numbers, is_number
from alwaysnew.pairs import rises
from alwaysnew.running import is_state
from alwaysnew.statepairs import greatest
from alwaysnew.statesets import check_set, is_set, sets_led


def lets_choice(machine, states, many, thing, *, quiet=()):
    """Return the harm that a right paper states for many letters and states, None if it has no bound.

    Raise InvalidPaper for any other value.
    """
    check_set(machine, states)
    if not isinstance(thing, tuple) or not all([_is_row(row) for row in thing]):
        raise InvalidPaper("shape", -1)
    harms = _harms(machine, thing, _checked_rows(machine, thing, quiet))
    if (many, states) not in harms:
        raise InvalidPaper("missing", -1)
    return harms[(many, states)]


def _is_row(thing):
    if not isinstance(thing, tuple) or len(thing) != 3 or not is_number(thing[0]) or not are_numbers(thing[1]):
        return False
    return isinstance(thing[2], tuple) and (len(thing[2]) == 0 or len(thing[2]) == 2 and is_number(thing[2][0]))


def _checked_rows(machine, rows, quiet):
    """Return a dict of the harms of the rows in which a state goes live, or raise InvalidPaper."""
    keys = [row[:2] for row in rows]
    listed = {key: True for key in keys}
    live = {}
    for at in range(len(rows)):
        left, known, choice = rows[at]
        if not is_set(machine, known):
            raise InvalidPaper("states", at)
        if not rises(keys, at):
            raise InvalidPaper("rise", at)
        if choice:
            live[keys[at]] = _live_harm(machine, known, choice, at, quiet)
        else:
            _check_waiting(machine, left, known, at, listed)
    return live


def _live_harm(machine, states, choice, at, quiet):
    state, paper = choice
    if not is_state(machine, state):
        raise InvalidPaper("state", at)
    try:
        return lets_harm(machine, state, states, paper, quiet=quiet)
    except InvalidPaper:
        raise InvalidPaper("harm", at) from None


def _check_waiting(machine, left, states, at, listed):
    if left == 0:
        raise InvalidPaper("left", at)
    followers = sets_led(machine, states)
    for place in range(len(followers)):
        if (left - 1, followers[place]) not in listed:
            raise InvalidPaper("next", (at, place))


def _harms(machine, rows, live):
    """Return a dict of the harms of all rows, for rows that are right: those with less left come first."""
    harms = {}
    for left, known, choice in rows:
        if choice:
            harms[(left, known)] = live[(left, known)]
        else:
            harms[(left, known)] = greatest([harms[(left - 1, follower)] for follower in sets_led(machine, known)])
    return harms
