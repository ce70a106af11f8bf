"""Papers that a setting of a line is right, or that it is not."""

from alwaysnew.alikepapers import alike_paper
from alwaysnew.lines import line_rows
from alwaysnew.linesettings import changed_line, checked_setting
from alwaysnew.pairs import ordered_pair


def line_paper(pieces, index, new, states, setting, *, free=(), quiet=()):
    """Return a line paper of the setting."""
    ends, start = checked_setting(pieces, index, new, states, setting, free)
    line = changed_line(pieces, index, new)
    starts = [start, *[standing for standing in ends if standing != start]]
    standings, rows = line_rows(line, starts)
    pairs = {}
    for at in range(1, len(starts)):
        form, found = alike_paper((line[0][0], rows), 0, at, quiet=quiet)
        if form == "apart":
            return ("wrong", ends[starts[at]], found)
        for one, other in found:
            pairs[ordered_pair(standings[one], standings[other])] = True
    return ("true", tuple(sorted(pairs)))
