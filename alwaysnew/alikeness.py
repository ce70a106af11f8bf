"""Which states of a machine are alike, and what parts those that are not."""

from alwaysnew.pairs import ordered_pair
from alwaysnew.running import check_state, past_along, quieted


def are_alike(machine, one, other, *, quiet=()):
    """Return whether the two states are alike."""
    return parting_reading(machine, one, other, quiet=quiet) is None


def parting_reading(machine, one, other, *, quiet=()):
    """Return the least of the shortest readings that part the two states, or None if they are alike."""
    check_state(machine, one)
    check_state(machine, other)
    return parting_way(quieted(machine, quiet), one, other)


def classes_of(machine, *, quiet=()):
    """Return a tuple that gives for each state the least state that is alike with it."""
    rows = quieted(machine, quiet)[1]
    classes = []
    finer = _first_places([tuple([word for _, word in row]) for row in rows])
    while finer != classes:
        classes = finer
        finer = _first_places([(classes[state], _followers(rows[state], classes)) for state in range(len(rows))])
    return tuple(classes)


def parting_way(machine, one, other, goals=None):
    """Return the least of the shortest readings that part the two states, and lead them to one of goals; or None."""
    ways, parting = pair_ways(machine, one, other, goals)
    if parting is None:
        return None
    pair, letter = parting
    return (*past_along(ways, pair), letter)


def pair_ways(machine, one, other, goals=None):
    """Lead two states on together by all letters, until a letter says different words from both.

    Return a dict of the pairs of different states that were found, the lesser state first, in the order of the
    least readings to them, with the pair and the letter before each (None for the first pair); and the pair and the
    letter that says different words, or None. If there are goals, pairs of any states, the lesser one first, this
    letter leads to one of these.
    """
    letters, rows = machine
    order = [] if one == other else [ordered_pair(one, other)]
    ways = {}
    if order:
        ways[order[0]] = None
    done = 0
    while done < len(order):
        one_row, other_row = rows[order[done][0]], rows[order[done][1]]
        for place in range(len(letters)):
            one_next, one_word = one_row[place]
            other_next, other_word = other_row[place]
            pair = ordered_pair(one_next, other_next)
            if one_word != other_word and (goals is None or pair in goals):
                return (ways, (order[done], letters[place]))
            if one_next != other_next and pair not in ways:
                ways[pair] = (order[done], letters[place])
                order.append(pair)
        done += 1
    return (ways, None)


def _followers(row, classes):
    return tuple([classes[follower] for follower, _ in row])


def _first_places(keys):
    """Return a list that gives for each of the keys the place of the first equal one."""
    places = {}
    firsts = []
    for place in range(len(keys)):
        if keys[place] not in places:
            places[keys[place]] = place
        firsts.append(places[keys[place]])
    return firsts
