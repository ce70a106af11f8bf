"""Notes that are kept beside versions whose states are at hand, so that wanted ones are always ready."""

from alwaysnew.alikeness import classes_of
from alwaysnew.running import check_reading, least_ways, standing_moved


def least_notes(versions, hand, wanted, *, quiet=()):
    """Return the greatest number of unlike wanted standings that come with one standing at hand."""
    return most_kinds(kinds_at_hand(versions, hand, wanted, quiet))


def notebook(versions, hand, wanted, *, quiet=()):
    """Return a notebook with as few different notes as possible."""
    classes = _wanted_classes(versions, wanted, quiet)
    together = kinds_at_hand(versions, hand, wanted, quiet)
    # The kinds with a standing at hand are numbered; that of the start comes first, and so has note 0.
    notes = {at_hand: list(together[at_hand]) for at_hand in together}
    rows = []
    for at_hand in together:
        for kind in together[at_hand]:
            nexts = []
            for place in range(len(versions[0][0])):
                standing = standing_moved(versions, together[at_hand][kind], place)
                nexts.append(notes[_states_at(standing, hand)].index(_kind_of(standing, classes)))
            rows.append((at_hand, notes[at_hand].index(kind), kind, tuple(nexts)))
    return tuple(sorted(rows))


def note_after(versions, hand, book, past):
    """Return the pair of the note and the wanted states that the notebook has after the past."""
    letters = versions[0][0]
    check_reading(letters, past)
    versions_at_hand = [versions[i] for i in hand]
    rows = {row[:2]: row for row in book}
    standing, note = (0,) * len(hand), 0
    for letter in past:
        place = letters.index(letter)
        note = rows[(standing, note)][3][place]
        standing = standing_moved(versions_at_hand, standing, place)
    return (note, rows[(standing, note)][2])


def kinds_at_hand(versions, hand, wanted, quiet):
    """Return a dict from each standing at hand to a dict of the kinds of wanted standings that come with it.

    Two wanted standings are of one kind if they are not unlike. A kind is written as the tuple of the least states
    that are alike with its own; the inner dict gives for it a standing of the versions, the one with the least past.
    """
    classes = _wanted_classes(versions, wanted, quiet)
    together = {}
    for standing in least_ways(versions):
        at_hand, kind = _states_at(standing, hand), _kind_of(standing, classes)
        if at_hand not in together:
            together[at_hand] = {}
        if kind not in together[at_hand]:
            together[at_hand][kind] = standing
    return together


def most_kinds(together):
    """Return the greatest number of kinds that come with one standing at hand."""
    return max([len(together[at_hand]) for at_hand in together])


def _wanted_classes(versions, wanted, quiet):
    return {i: classes_of(versions[i], quiet=quiet) for i in wanted}


def _states_at(standing, indexes):
    return tuple([standing[i] for i in indexes])


def _kind_of(standing, classes):
    return tuple([classes[i][standing[i]] for i in classes])
