"""Versions with some at hand and some wanted, and slow but plain ways to compute what must be noted."""

import functools
import itertools

from tests.examples import FIRST, GAPS, LAST, LATE, LONE, NEW, OLD, THREE, made_machine, plain_parting, plain_reached
from tests.tailexamples import BRIEF, FLIP, SILENT, TWO, plain_step

QUIETS = ((), ('x',), ('no', 'yes'), ('go', 'never', 'x', 'y'))


def note_cases():
    """Yield versions, those at hand, and wanted ones: all sets of both."""
    groups = [(OLD,), (FIRST,), (OLD, NEW), (OLD, FIRST), (SILENT, TWO), (LAST, FLIP), (GAPS, BRIEF), (LATE, LONE),
              (OLD, NEW, FIRST), (NEW, LAST, OLD), (FLIP, GAPS, LAST)]
    for seed in range(0, 12, 3):
        groups.append((made_machine(seed, 3, THREE[0]), made_machine(seed + 1, 2, THREE[0]), THREE))
    for versions in groups:
        indexes = range(len(versions))
        sets = [chosen for many in range(len(versions) + 1) for chosen in itertools.combinations(indexes, many)]
        for hand, wanted in itertools.product(sets, sets[1:]):
            yield versions, hand, wanted


def places_of(standing, indexes):
    """Return the states of a standing at some places."""
    return tuple(standing[i] for i in indexes)


@functools.cache
def are_apart(machine, one, other, quiet):
    """Return whether two states are not alike."""
    return plain_parting(machine, one, other, quiet) is not None


def unlike_places(versions, wanted, one, other, quiet):
    """Return those of wanted in whose places two wanted standings are not alike."""
    return [i for i, p, q in zip(wanted, one, other) if are_apart(versions[i], p, q, quiet)]


def plain_least_notes(versions, hand, wanted, quiet=()):
    """Return the greatest number of unlike wanted standings with one standing at hand, by the words of [51]."""
    greatest = 0
    reached = list(plain_reached(versions))
    for at_hand in {places_of(standing, hand) for standing in reached}:
        chosen = []
        for standing in reached:
            if places_of(standing, hand) == at_hand:
                one = places_of(standing, wanted)
                if all(unlike_places(versions, wanted, one, other, quiet) for other in chosen):
                    chosen.append(one)
        greatest = max(greatest, len(chosen))
    return greatest


def is_number_tuple(thing, many):
    """Return whether a value is a tuple of so many numbers."""
    return type(thing) is tuple and len(thing) == many and all(type(part) is int and part >= 0 for part in thing)


def has_states(versions, indexes, states):
    """Return whether states is a tuple with a state of each version with one of the indexes."""
    return is_number_tuple(states, len(indexes)) and all(
        state < len(versions[i][1]) for i, state in zip(indexes, states))


def is_notebook(versions, hand, wanted, book, quiet=()):
    """Return whether a value is a notebook that the checker of [53] accepts, by the words of that point."""
    letters = versions[0][0]
    if type(book) is not tuple or any(type(row) is not tuple or len(row) != 4 for row in book):
        return False
    rows = {}
    for at_hand, note, true, nexts in book:
        if not (has_states(versions, hand, at_hand) and has_states(versions, wanted, true)
                and is_number_tuple((note,), 1) and is_number_tuple(nexts, len(letters))):
            return False
        if rows and (at_hand, note) <= max(rows):
            return False
        rows[at_hand, note] = (true, nexts)
    start = rows.get(((0,) * len(hand), 0))
    if start is None or unlike_places(versions, wanted, start[0], (0,) * len(wanted), quiet):
        return False
    return all(fits(versions, hand, wanted, rows, key, letter, quiet) for key in rows for letter in letters)


def fits(versions, hand, wanted, rows, key, letter, quiet):
    """Return whether the row to which a letter leads is there, and has states that are alike with those led on."""
    true, nexts = rows[key]
    at_hand = plain_step([versions[i] for i in hand], key[0], letter)
    led = plain_step([versions[i] for i in wanted], true, letter)
    row = rows.get((at_hand, nexts[versions[0][0].index(letter)]))
    return row is not None and not unlike_places(versions, wanted, row[0], led, quiet)


def plain_note_after(versions, hand, book, past):
    """Return the pair of the note and the true states after a past, row by row."""
    at_hand, note = (0,) * len(hand), 0
    for letter in past:
        nexts = [row[3] for row in book if row[0] == at_hand and row[1] == note][0]
        note = nexts[versions[0][0].index(letter)]
        at_hand = plain_step([versions[i] for i in hand], at_hand, letter)
    return [(row[1], row[2]) for row in book if row[0] == at_hand and row[1] == note][0]
