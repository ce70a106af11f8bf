"""The checkers of notebooks and of needs papers."""

from alwaysnew.alikeness import classes_of
from alwaysnew.errors import InvalidPaper
from alwaysnew.kinds import are_numbers, is_number, is_reading
from alwaysnew.pairs import rises
from alwaysnew.running import are_letters, first_stranger, is_parting, standing_moved
from alwaysnew.standings import is_standing, standing_after


def lets_notebook(versions, hand, wanted, thing, *, quiet=()):
    """Return the number of different notes of a right notebook; raise InvalidPaper for any other value."""
    if not isinstance(thing, tuple) or not all([_is_row(row) for row in thing]):
        raise InvalidPaper("shape", -1)
    at_hand = [versions[i] for i in hand]
    wished = [versions[i] for i in wanted]
    _check_rows(at_hand, wished, thing, len(versions[0][0]))
    classes = [classes_of(machine, quiet=quiet) for machine in wished]
    trues = {row[:2]: row[2] for row in thing}
    start = ((0,) * len(hand), 0)
    if start not in trues or not _are_like(classes, trues[start], (0,) * len(wanted)):
        raise InvalidPaper("begin", -1)
    for at in range(len(thing)):
        standing, _, true, nexts = thing[at]
        for place in range(len(nexts)):
            key = (standing_moved(at_hand, standing, place), nexts[place])
            if key not in trues:
                raise InvalidPaper("next", (at, place))
            if not _are_like(classes, trues[key], standing_moved(wished, true, place)):
                raise InvalidPaper("alike", (at, place))
    return len(set([row[1] for row in thing]))


def lets_needs(versions, hand, wanted, thing, *, quiet=()):
    """Return the number of pasts of a right needs paper; raise InvalidPaper for any other value."""
    if not _is_needs(thing):
        raise InvalidPaper("shape", -1)
    begun, partings = thing
    many = len(begun)
    if many == 0 or len(partings) != many * (many - 1) // 2:
        raise InvalidPaper("many", -1)
    stranger = first_stranger(versions[0][0], begun)
    if stranger is not None:
        raise InvalidPaper("letter", stranger)
    standings = [standing_after(versions, past) for past in begun]
    for at in range(many):
        if [standings[at][i] for i in hand] != [standings[0][i] for i in hand]:
            raise InvalidPaper("hand", at)
    both = [(one, other) for one in range(many) for other in range(one + 1, many)]
    for at in range(len(both)):
        one, other = both[at]
        if not _parts(versions, wanted, standings[one], standings[other], partings[at], quiet):
            raise InvalidPaper("parting", at)
    return many


def _is_row(thing):
    if not isinstance(thing, tuple) or len(thing) != 4:
        return False
    return are_numbers(thing[0]) and is_number(thing[1]) and are_numbers(thing[2]) and are_numbers(thing[3])


def _check_rows(at_hand, wished, rows, width):
    keys = [row[:2] for row in rows]
    for at in range(len(rows)):
        if not is_standing(at_hand, rows[at][0]):
            raise InvalidPaper("hand", at)
        if not is_standing(wished, rows[at][2]):
            raise InvalidPaper("true", at)
        if len(rows[at][3]) != width:
            raise InvalidPaper("nexts", at)
        if not rises(keys, at):
            raise InvalidPaper("rise", at)


def _are_like(classes, one, other):
    """Return whether no two states in the same place are unlike; classes has what classes_of returns for each."""
    return all([classes[at][one[at]] == classes[at][other[at]] for at in range(len(classes))])


def _is_needs(thing):
    if not isinstance(thing, tuple) or len(thing) != 2:
        return False
    if not isinstance(thing[0], tuple) or not isinstance(thing[1], tuple):
        return False
    return all([is_reading(past) for past in thing[0]]) and all([_is_parting_pair(pair) for pair in thing[1]])


def _is_parting_pair(thing):
    return isinstance(thing, tuple) and len(thing) == 2 and is_number(thing[0]) and is_reading(thing[1])


def _parts(versions, wanted, one, other, parting, quiet):
    i, reading = parting
    if i not in wanted or not are_letters(versions[i][0], reading):
        return False
    return is_parting(versions[i], one[i], other[i], reading, quiet)
