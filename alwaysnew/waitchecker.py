"""The checker of wait papers."""

from alwaysnew.alikeness import classes_of
from alwaysnew.errors import InvalidPaper
from alwaysnew.kinds import are_numbers, is_number, is_reading
from alwaysnew.pairs import rises
from alwaysnew.running import first_stranger
from alwaysnew.statesets import are_ready, check_set, is_set, set_led, sets_led


def lets_wait(machine, states, thing, *, quiet=()):
    """Return after how many letters a right paper says that states are ready; None for one that they never are.

    Raise InvalidPaper for any other value.
    """
    check_set(machine, states)
    if not _has_shape(thing):
        raise InvalidPaper("shape", -1)
    classes = classes_of(machine, quiet=quiet)
    if thing[0] == "forever":
        _check_forever(machine, states, thing[1], thing[2], classes)
        return None
    numbers = _checked_rows(machine, thing[1], classes)
    if are_ready(classes, states):
        return 0
    if states not in numbers:
        raise InvalidPaper("missing", -1)
    return numbers[states]


def _has_shape(thing):
    if not isinstance(thing, tuple):
        return False
    if len(thing) == 2:
        return thing[0] == "within" and isinstance(thing[1], tuple) and all([_is_row(row) for row in thing[1]])
    return len(thing) == 3 and thing[0] == "forever" and is_reading(thing[1]) and is_reading(thing[2])


def _is_row(thing):
    return isinstance(thing, tuple) and len(thing) == 2 and are_numbers(thing[0]) and is_number(thing[1])


def _checked_rows(machine, rows, classes):
    """Return a dict of the sets of the rows with their numbers, or raise InvalidPaper."""
    sets = [row[0] for row in rows]
    for at in range(len(sets)):
        if not is_set(machine, sets[at]) or are_ready(classes, sets[at]):
            raise InvalidPaper("states", at)
        if not rises(sets, at):
            raise InvalidPaper("rise", at)
    numbers = {known: number for known, number in rows}
    for at in range(len(rows)):
        if numbers[sets[at]] != 1 + max(_numbers_behind(machine, sets, at, numbers, classes)):
            raise InvalidPaper("number", at)
    return numbers


def _numbers_behind(machine, sets, at, numbers, classes):
    followers = sets_led(machine, sets[at])
    behind = []
    for place in range(len(followers)):
        if are_ready(classes, followers[place]):
            behind.append(0)
        elif followers[place] in numbers:
            behind.append(numbers[followers[place]])
        else:
            raise InvalidPaper("next", (at, place))
    return behind


def _check_forever(machine, states, reading, ring, classes):
    stranger = first_stranger(machine[0], (reading, ring))
    if stranger is not None:
        raise InvalidPaper("letter", stranger)
    reached = set_led(machine, states, reading)
    if not ring or set_led(machine, reached, ring) != reached:
        raise InvalidPaper("ring", -1)
    if are_ready(classes, reached):
        raise InvalidPaper("ready", -1)
