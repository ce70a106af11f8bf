"""The checker of machines."""

from alwaysnew.errors import InvalidPaper
from alwaysnew.kinds import is_integer, is_letters, is_reading, is_word


def lets_machine(thing):
    """Return the number of states of a machine; raise InvalidPaper for any other value."""
    if not _has_shape(thing):
        raise InvalidPaper("shape", -1)
    letters, rows = thing
    if not is_letters(letters):
        raise InvalidPaper("letters", -1)
    if not rows:
        raise InvalidPaper("rows", -1)
    for state in range(len(rows)):
        _check_row(rows, state, len(letters))
    return len(rows)


def _check_row(rows, state, width):
    if len(rows[state]) != width:
        raise InvalidPaper("row", state)
    for at in range(width):
        if not 0 <= rows[state][at][0] < len(rows):
            raise InvalidPaper("next", (state, at))


def _has_shape(thing):
    if not isinstance(thing, tuple) or len(thing) != 2:
        return False
    letters, rows = thing
    return is_reading(letters) and isinstance(rows, tuple) and all([_is_row(row) for row in rows])


def _is_row(thing):
    return isinstance(thing, tuple) and all([_is_pair(pair) for pair in thing])


def _is_pair(thing):
    return isinstance(thing, tuple) and len(thing) == 2 and is_integer(thing[0]) and is_word(thing[1])
