"""The checker of alike papers."""

from alwaysnew.errors import InvalidPaper
from alwaysnew.kinds import is_number, is_reading
from alwaysnew.running import check_state, is_letter, quieted, said


def lets_alike(machine, one, other, thing, *, quiet=()):
    """Return True for a right paper that the two states are alike, False for a right one that they are not.

    Raise InvalidPaper for any other value.
    """
    check_state(machine, one)
    check_state(machine, other)
    if not _has_shape(thing):
        raise InvalidPaper("shape", -1)
    if thing[0] == "alike":
        _check_pairs(machine, one, other, thing[1], quiet)
        return True
    _check_parting(machine, one, other, thing[1], quiet)
    return False


def _has_shape(thing):
    if not isinstance(thing, tuple) or len(thing) != 2:
        return False
    if thing[0] == "alike":
        return is_number_pairs(thing[1])
    return thing[0] == "apart" and is_reading(thing[1])


def is_number_pairs(thing):
    """Return whether thing is a tuple of pairs of numbers."""
    return isinstance(thing, tuple) and all([_is_number_pair(pair) for pair in thing])


def _is_number_pair(thing):
    return isinstance(thing, tuple) and len(thing) == 2 and is_number(thing[0]) and is_number(thing[1])


def _check_pairs(machine, one, other, pairs, quiet):
    rows = quieted(machine, quiet)[1]
    for at in range(len(pairs)):
        in_order = at == 0 or pairs[at - 1] < pairs[at]
        if not (pairs[at][0] < pairs[at][1] < len(rows) and in_order):
            raise InvalidPaper("pair", at)
    listed = {pair: True for pair in pairs}
    if not _are_paired(one, other, listed):
        raise InvalidPaper("lacks", -1)
    for at in range(len(pairs)):
        _check_followers(rows, pairs, at, listed)


def _check_followers(rows, pairs, at, listed):
    one, other = pairs[at]
    for place in range(len(rows[one])):
        one_next, one_word = rows[one][place]
        other_next, other_word = rows[other][place]
        if one_word != other_word:
            raise InvalidPaper("said", (at, place))
        if not _are_paired(one_next, other_next, listed):
            raise InvalidPaper("next", (at, place))


def _are_paired(one, other, listed):
    return one == other or (min(one, other), max(one, other)) in listed


def _check_parting(machine, one, other, reading, quiet):
    for at in range(len(reading)):
        if not is_letter(machine[0], reading[at]):
            raise InvalidPaper("letter", at)
    one_words = said(machine, reading, state=one, quiet=quiet)
    other_words = said(machine, reading, state=other, quiet=quiet)
    if one_words[-1:] == other_words[-1:]:
        raise InvalidPaper("same", -1)
