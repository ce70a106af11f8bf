"""The checker of harm papers."""

from alwaysnew.errors import InvalidPaper
from alwaysnew.kinds import are_numbers, is_number, is_reading
from alwaysnew.pairs import ordered_pair, rises
from alwaysnew.running import check_state, first_stranger, quieted, wrong_words
from alwaysnew.statepairs import pair_led
from alwaysnew.statesets import check_set


def lets_harm(machine, one, states, thing, *, quiet=()):
    """Return the harm that a right paper states for one, None for a right one that it has no bound.

    Raise InvalidPaper for any other value.
    """
    check_state(machine, one)
    check_set(machine, states)
    if not _has_shape(thing):
        raise InvalidPaper("shape", -1)
    form, other, reading, rest = thing
    if other not in states:
        raise InvalidPaper("other", -1)
    stranger = first_stranger(machine[0], (reading, rest) if form == "without" else (reading,))
    if stranger is not None:
        raise InvalidPaper("letter", stranger)
    if form == "without":
        _check_ring(machine, pair_led(machine, (one, other), reading), rest, quiet)
        return None
    numbers = _checked_rows(quieted(machine, quiet), rest)
    harm = wrong_words(machine, one, other, reading, quiet)
    _check_states(one, states, numbers, harm)
    return harm


def _has_shape(thing):
    if not isinstance(thing, tuple) or len(thing) != 4 or not is_number(thing[1]) or not is_reading(thing[2]):
        return False
    if thing[0] == "most":
        return isinstance(thing[3], tuple) and all([are_numbers(row) and len(row) == 3 for row in thing[3]])
    return thing[0] == "without" and is_reading(thing[3])


def _check_ring(machine, pair, ring, quiet):
    if pair_led(machine, pair, ring) != pair or wrong_words(machine, pair[0], pair[1], ring, quiet) == 0:
        raise InvalidPaper("ring", -1)


def _checked_rows(machine, rows):
    """Return a dict of the pairs of the rows with their numbers, or raise InvalidPaper."""
    pairs = [row[:2] for row in rows]
    for at in range(len(pairs)):
        if not pairs[at][0] < pairs[at][1] < len(machine[1]):
            raise InvalidPaper("states", at)
        if not rises(pairs, at):
            raise InvalidPaper("rise", at)
    numbers = {(one, other): number for one, other, number in rows}
    for at in range(len(pairs)):
        _check_row(machine, pairs[at], at, numbers)
    return numbers


def _check_row(machine, pair, at, numbers):
    one_row, other_row = machine[1][pair[0]], machine[1][pair[1]]
    for place in range(len(one_row)):
        one_next, one_word = one_row[place]
        other_next, other_word = other_row[place]
        follower = ordered_pair(one_next, other_next)
        if one_next != other_next and follower not in numbers:
            raise InvalidPaper("next", (at, place))
        behind = 0 if one_next == other_next else numbers[follower]
        if numbers[pair] < behind + (0 if one_word == other_word else 1):
            raise InvalidPaper("less", (at, place))


def _check_states(one, states, numbers, harm):
    for at in range(len(states)):
        pair = ordered_pair(one, states[at])
        if states[at] != one and pair not in numbers:
            raise InvalidPaper("missing", at)
        if states[at] != one and numbers[pair] > harm:
            raise InvalidPaper("above", at)
