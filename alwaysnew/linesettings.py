"""Pieces of a line that are replaced while the others keep their states."""

from alwaysnew.alikeness import classes_of
from alwaysnew.errors import InvalidBox, NotReached
from alwaysnew.kinds import is_number
from alwaysnew.lines import check_pieces, check_states, check_words, line_moved, line_rows


def new_standings(pieces, index, new, states):
    """Return the set of the standings of the new line after those pasts that lead the line to states."""
    return _checked_standings(pieces, index, new, states, ())


def places_in_line(pieces, index, new, states, *, free=(), quiet=()):
    """Return the set of all settings whose set standing is alike, in the new line, with each new standing."""
    standings = _checked_standings(pieces, index, new, states, free)
    line = changed_line(pieces, index, new)
    settings = [()]
    for piece in (new, *[pieces[at] for at in free]):
        settings = [(*setting, state) for setting in settings for state in range(len(piece[1]))]
    set_standings = [set_standing(states, index, free, setting) for setting in settings]
    classes = _line_classes(line, sorted(set([*standings, *set_standings])), quiet)
    wanted = [classes[standing] for standing in standings]
    return tuple([settings[at] for at in range(len(settings))
                  if all([one == classes[set_standings[at]] for one in wanted])])


def changed_line(pieces, index, new):
    """Return the pieces of the new line."""
    return (*pieces[:index], new, *pieces[index + 1:])


def set_standing(states, index, free, setting):
    """Return the set standing of a setting."""
    standing = list(states)
    places = (index, *free)
    for at in range(len(places)):
        standing[places[at]] = setting[at]
    return tuple(standing)


def _line_classes(line, standings, quiet):
    """Return a dict from each of the standings to a number that only those alike with it have, too."""
    rows = line_rows(line, standings)[1]
    classes = classes_of((line[0][0], rows), quiet=quiet)
    return {standings[at]: classes[at] for at in range(len(standings))}


def _checked_standings(pieces, index, new, states, free):
    """Return the new standings, behind the errors of the functions of lines."""
    check_pieces(pieces)
    if not is_number(index) or index >= len(pieces):
        raise InvalidBox("index", index)
    _check_free(pieces, index, free)
    if index == 0 and new[0] != pieces[0][0]:
        raise InvalidBox("letters", -1)
    line = changed_line(pieces, index, new)
    check_words(line)
    check_states(pieces, states)
    standings = _standings_together(pieces, line, states)
    if not standings:
        raise NotReached(states)
    return standings


def _check_free(pieces, index, free):
    before = -1
    for at in free:
        if at >= len(pieces) or at == index or at <= before:
            raise InvalidBox("free", at)
        before = at


def _standings_together(pieces, line, states):
    """Return the set of the standings of line after the pasts that lead pieces to states."""
    start = (0,) * len(pieces)
    order = [(start, start)]
    seen = {order[0]: True}
    done = 0
    while done < len(order):
        standing, line_standing = order[done]
        for letter in pieces[0][0]:
            both = (line_moved(pieces, standing, letter)[0], line_moved(line, line_standing, letter)[0])
            if both not in seen:
                seen[both] = True
                order.append(both)
        done += 1
    return tuple(sorted([both[1] for both in order if both[0] == states]))
