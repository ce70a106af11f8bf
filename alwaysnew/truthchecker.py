"""The checker of truth papers."""

from alwaysnew.alikechecker import lets_alike
from alwaysnew.errors import InvalidPaper
from alwaysnew.kinds import is_reading
from alwaysnew.running import are_letters, check_state, is_parting
from alwaysnew.standings import standing_after


def lets_truth(k, i, t, thing, *, quiet=()):
    """Return True for a right paper that the state t of version i is true, False for a right one that it is not.

    Raise InvalidPaper for any other value.
    """
    places = k.places(i)
    machine = k.versions[i]
    check_state(machine, t)
    if not has_truth_shape(thing):
        raise InvalidPaper("shape", -1)
    if thing[0] == "true":
        _check_alike(machine, t, places, thing[1], quiet)
        return True
    _, past, reading = thing
    if not are_letters(machine[0], past) or not k.allows(past):
        raise InvalidPaper("past", -1)
    place = standing_after(k.versions, past)[i]
    if not are_letters(machine[0], reading) or not is_parting(machine, t, place, reading, quiet):
        raise InvalidPaper("reading", -1)
    return False


def has_truth_shape(thing):
    """Return whether thing is "true" with a tuple of any values, or "wrong" with two tuples of names."""
    if not isinstance(thing, tuple):
        return False
    if len(thing) == 2:
        return thing[0] == "true" and isinstance(thing[1], tuple)
    return len(thing) == 3 and thing[0] == "wrong" and is_reading(thing[1]) and is_reading(thing[2])


def _check_alike(machine, t, places, papers, quiet):
    if len(papers) != len(places):
        raise InvalidPaper("many", -1)
    for at in range(len(places)):
        if not _shows_alike(machine, t, places[at], papers[at], quiet):
            raise InvalidPaper("alike", at)


def _shows_alike(machine, one, other, thing, quiet):
    try:
        return lets_alike(machine, one, other, thing, quiet=quiet)
    except InvalidPaper:
        return False
