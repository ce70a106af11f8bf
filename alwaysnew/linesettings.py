"""Pieces of a line that are replaced while the others keep their states."""

from alwaysnew.alikeness import classes_of
from alwaysnew.errors import InvalidBox, NotReached
from alwaysnew.kinds import is_number
from alwaysnew.lines import check_pieces, check_words, line_rows
from alwaysnew.running import check_states, least_ways, past_along


def new_standings(pieces, index, new, states):
    """Return the set of the standings of the new line after those pasts that lead the line to states."""
    return tuple(standing_pasts(pieces, index, new, states, ()))


def places_in_line(pieces, index, new, states, *, free=(), quiet=()):
    """Return the set of all settings whose set standing is alike, in the new line, with each new standing."""
    standings = list(standing_pasts(pieces, index, new, states, free))
    settings = [()]
    for piece in _set_pieces(pieces, new, free):
        settings = [(*setting, state) for setting in settings for state in range(len(piece[1]))]
    set_standings = [_set_standing(states, index, free, setting) for setting in settings]
    line = changed_line(pieces, index, new)
    classes = _line_classes(line, sorted(set([*standings, *set_standings])), quiet)
    wanted = [classes[standing] for standing in standings]
    return tuple([settings[at] for at in range(len(settings))
                  if all([one == classes[set_standings[at]] for one in wanted])])


def standing_pasts(pieces, index, new, states, free):
    """Return a dict of the new standings, ascending, each with the least past that leads the line to states, too.

    Raise the errors of the replacement, behind those of the functions of lines.
    """
    check_pieces(pieces)
    if not is_number(index) or index >= len(pieces):
        raise InvalidBox("index", index)
    _check_free(pieces, index, free)
    if index == 0 and new[0] != pieces[0][0]:
        raise InvalidBox("letters", -1)
    line = changed_line(pieces, index, new)
    check_words(line)
    check_states(pieces, states)
    found = _pasts_together(pieces, line, states)
    if not found:
        raise NotReached(states)
    return {standing: found[standing] for standing in sorted(found)}


def checked_setting(pieces, index, new, states, setting, free):
    """Return the pair of what standing_pasts returns and the set standing, behind the errors of both."""
    found = standing_pasts(pieces, index, new, states, free)
    check_states(_set_pieces(pieces, new, free), setting)
    return (found, _set_standing(states, index, free, setting))


def changed_line(pieces, index, new):
    """Return the pieces of the new line."""
    return (*pieces[:index], new, *pieces[index + 1:])


def _set_pieces(pieces, new, free):
    return [new, *[pieces[at] for at in free]]


def _set_standing(states, index, free, setting):
    standing = list(states)
    places = (index, *free)
    for at in range(len(places)):
        standing[places[at]] = setting[at]
    return tuple(standing)


def _line_classes(line, standings, quiet):
    """Return a dict from each of the standings to a number that only those alike with it have, too."""
    rows = line_rows(line, standings)[1]
    classes = classes_of((line[0][0], rows), quiet=quiet)
    return {standings[at]: classes[at] for at in range(len(standings))}


def _check_free(pieces, index, free):
    before = -1
    for at in free:
        if at >= len(pieces) or at == index or at <= before:
            raise InvalidBox("free", at)
        before = at


def _pasts_together(pieces, line, states):
    """Return a dict of the standings of line after the pasts that lead pieces to states, with such a past each."""
    start = (0,) * len(pieces)
    standings, rows = line_rows(pieces, [start])
    line_standings, new_rows = line_rows(line, [start])
    letters = pieces[0][0]
    ways = least_ways(((letters, rows), (letters, new_rows)))
    return {line_standings[both[1]]: past_along(ways, both) for both in ways if standings[both[0]] == states}
