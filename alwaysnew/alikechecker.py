"""The checker of alike papers."""

from alwaysnew.errors import InvalidPaper
from alwaysnew.kinds import is_number_pair, is_reading
from alwaysnew.pairs import are_paired, rises
from alwaysnew.running import check_state, is_letter, is_parting, quieted


def lets_alike(machine, one, other, thing, *, quiet=()):
    """Return True for a right paper that the two states are alike, False for a right one that they are not.

    Raise InvalidPaper for any other value.
    """
    check_state(machine, one)
    check_state(machine, other)
    if not has_shape(thing, "alike"):
        raise InvalidPaper("shape", -1)
    if thing[0] == "apart":
        check_apart(machine, one, other, thing[1], quiet)
        return False
    _check_order(machine, thing[1])
    if not are_paired(one, other, thing[1]):
        raise InvalidPaper("lacks", -1)
    check_followers(quieted(machine, quiet)[1], thing[1])
    return True


def has_shape(thing, form):
    """Return whether thing is of this form, with a tuple of pairs of numbers, or "apart", with a tuple of names."""
    if not isinstance(thing, tuple) or len(thing) != 2:
        return False
    if thing[0] == form:
        return isinstance(thing[1], tuple) and all([is_number_pair(pair) for pair in thing[1]])
    return thing[0] == "apart" and is_reading(thing[1])


def check_followers(rows, pairs):
    """Raise InvalidPaper for the first letter that a pair does not read alike.

    rows gives for each one of the pairs its row, with quiet words left unsaid.
    """
    listed = {pair: True for pair in pairs}
    for at in range(len(pairs)):
        one_row, other_row = rows[pairs[at][0]], rows[pairs[at][1]]
        for place in range(len(one_row)):
            one_next, one_word = one_row[place]
            other_next, other_word = other_row[place]
            if one_word != other_word:
                raise InvalidPaper("said", (at, place))
            if not are_paired(one_next, other_next, listed):
                raise InvalidPaper("next", (at, place))


def check_apart(machine, one, other, reading, quiet):
    """Raise InvalidPaper if the reading does not part the two states."""
    for at in range(len(reading)):
        if not is_letter(machine[0], reading[at]):
            raise InvalidPaper("letter", at)
    if not is_parting(machine, one, other, reading, quiet):
        raise InvalidPaper("same", -1)


def _check_order(machine, pairs):
    for at in range(len(pairs)):
        if not (pairs[at][0] < pairs[at][1] < len(machine[1]) and rises(pairs, at)):
            raise InvalidPaper("pair", at)
