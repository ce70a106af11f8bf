"""The checker of line papers."""

from alwaysnew.alikechecker import check_followers
from alwaysnew.errors import InvalidPaper
from alwaysnew.kinds import are_numbers
from alwaysnew.lines import line_led, line_moved
from alwaysnew.linesettings import changed_line, checked_setting
from alwaysnew.pairs import are_paired, rises
from alwaysnew.running import are_letters, unsaid
from alwaysnew.standings import is_standing
from alwaysnew.truthchecker import has_truth_shape


def lets_line(pieces, index, new, states, setting, thing, *, free=(), quiet=()):
    """Return True for a right paper that the setting is right, False for a right one that it is not.

    Raise InvalidPaper for any other value.
    """
    ends, start = checked_setting(pieces, index, new, states, setting, free)
    line = changed_line(pieces, index, new)
    if not _has_shape(thing):
        raise InvalidPaper("shape", -1)
    if thing[0] == "true":
        _check_pairs(line, list(ends), start, thing[1], quiet)
        return True
    _, past, reading = thing
    zeros = (0,) * len(pieces)
    if not are_letters(line[0][0], past) or line_led(pieces, zeros, past)[0] != states:
        raise InvalidPaper("past", -1)
    end = line_led(line, zeros, past)[0]
    if not are_letters(line[0][0], reading) or not _is_parting_line(line, start, end, reading, quiet):
        raise InvalidPaper("reading", -1)
    return False


def _has_shape(thing):
    return has_truth_shape(thing) and (thing[0] == "wrong" or all([_is_pair(pair) for pair in thing[1]]))


def _is_pair(thing):
    return isinstance(thing, tuple) and len(thing) == 2 and are_numbers(thing[0]) and are_numbers(thing[1])


def _check_pairs(line, ends, start, pairs, quiet):
    for at in range(len(pairs)):
        one, other = pairs[at]
        if not (is_standing(line, one) and is_standing(line, other) and one < other and rises(pairs, at)):
            raise InvalidPaper("pair", at)
    for at in range(len(ends)):
        if not are_paired(start, ends[at], pairs):
            raise InvalidPaper("lacks", at)
    check_followers({standing: _row(line, standing, quiet) for pair in pairs for standing in pair}, pairs)


def _row(line, standing, quiet):
    moves = [line_moved(line, standing, letter) for letter in line[0][0]]
    return [(follower, unsaid(word, quiet)) for follower, word in moves]


def _is_parting_line(line, one, other, reading, quiet):
    one_word, other_word = line_led(line, one, reading)[1], line_led(line, other, reading)[1]
    return unsaid(one_word, quiet) != unsaid(other_word, quiet)
