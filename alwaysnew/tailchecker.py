"""The checker of tail papers."""

from alwaysnew.errors import InvalidPaper
from alwaysnew.kinds import is_number, is_number_pair, is_reading
from alwaysnew.pairs import rises
from alwaysnew.running import are_letters, is_parting
from alwaysnew.standings import standing_after, standing_led
from alwaysnew.tailpairs import bad_pairs, check_letters, pairs_before, rank_behind


def lets_tail(old, new, thing, *, quiet=()):
    """Return the least number of letters that a right paper states to be enough, None for a right one of none.

    Raise InvalidPaper for any other value.
    """
    check_letters(old, new)
    if not _has_shape(thing):
        raise InvalidPaper("shape", -1)
    if thing[0] == "enough":
        return _least_of_rows(old, new, thing[1], quiet)
    _check_never(old, new, thing[1:], quiet)
    return None


def _has_shape(thing):
    if not isinstance(thing, tuple):
        return False
    if len(thing) == 2:
        return thing[0] == "enough" and isinstance(thing[1], tuple) and all([_is_row(row) for row in thing[1]])
    return len(thing) == 6 and thing[0] == "never" and all([is_reading(reading) for reading in thing[1:]])


def _is_row(thing):
    if not isinstance(thing, tuple) or len(thing) != 3:
        return False
    return is_number_pair(thing[0]) and is_number_pair(thing[1]) and is_number(thing[2])


def _least_of_rows(old, new, rows, quiet):
    before = pairs_before(old, new)
    pairs = [row[:2] for row in rows]
    for at in range(len(pairs)):
        if pairs[at] not in before or not rises(pairs, at):
            raise InvalidPaper("pair", at)
    ranks = {(one, other): rank for one, other, rank in rows}
    for at in range(len(rows)):
        earlier = before[pairs[at]]
        if not all([pair in ranks for pair in earlier]):
            raise InvalidPaper("before", at)
        if rows[at][2] != rank_behind(earlier, ranks):
            raise InvalidPaper("rank", at)
    bad = bad_pairs(new, before, quiet)
    for pair in bad:
        if pair not in ranks:
            raise InvalidPaper("bad", pair)
    return rank_behind(bad, ranks)


def _check_never(old, new, readings, quiet):
    for at in range(len(readings)):
        if not are_letters(old[0], readings[at]):
            raise InvalidPaper("letters", at)
    versions = (old, new)
    ring, rest, reading = readings[2:]
    both = [standing_after(versions, readings[0]), standing_after(versions, readings[1])]
    if not ring or [standing_led(versions, standing, ring) for standing in both] != both:
        raise InvalidPaper("ring", -1)
    one, other = [standing_led(versions, standing, rest) for standing in both]
    if one[0] != other[0]:
        raise InvalidPaper("old", -1)
    if not is_parting(new, one[1], other[1], reading, quiet):
        raise InvalidPaper("reading", -1)
