"""What can come of each two states of a machine, if one of them is taken for the other.

A pair may be that of a state and itself here. A number that has no bound is None.
"""

from alwaysnew.alikeness import classes_of, parting_way
from alwaysnew.pairs import ordered_pair
from alwaysnew.running import led


def pair_waits(machine, quiet):
    """Return a dict of the pairs: the least number of letters after which both states are alike, whatever is read."""
    classes = classes_of(machine, quiet=quiet)
    moves = _moves(machine)

    def further(left):
        """Return a dict of the pairs of states that are not alike, and that a letter leads to one of those left."""
        unlike = [pair for pair in left if classes[pair[0]] != classes[pair[1]]]
        return {pair: True for pair in unlike if any([follower in left for follower, _ in moves[pair]])}

    return _levels(moves, further)


def pair_harms(machine):
    """Return a dict of the pairs: the greatest number of words in a reading that both states say differently."""
    moves = _moves(machine)
    before = _pairs_before(moves)

    def further(left):
        """Return a dict of the pairs that a reading whose last word is wrong leads to one of those left."""
        order = [pair for pair in left if any([is_wrong and follower in left for follower, is_wrong in moves[pair]])]
        found = {pair: True for pair in order}
        done = 0
        while done < len(order):
            reached = order[done]
            for earlier in before[reached]:
                if earlier not in found:
                    found[earlier] = True
                    order.append(earlier)
            done += 1
        return found

    return _levels(moves, further)


def reading_with(machine, harms, pair, many):
    """Return a reading in which both states of the pair, whose harm is at least many, say so many words differently."""
    reading = ()
    for left in range(many - 1, -1, -1):
        goals = {goal: True for goal in harms if harms[goal] is None or harms[goal] >= left}
        way = parting_way(machine, pair[0], pair[1], goals)
        pair = pair_led(machine, pair, way)
        reading = (*reading, *way)
    return reading


def pair_led(machine, pair, reading):
    """Return the two states to which the reading leads those of the pair, in the order of these."""
    one, other = pair
    return (led(machine, reading, state=one), led(machine, reading, state=other))


def greatest(numbers):
    """Return the greatest of the numbers, None if one of them has no bound."""
    return None if None in numbers else max(numbers)


def is_beyond(number, most):
    """Return whether the number is greater than most, or has no bound."""
    return number is None or number > most


def _moves(machine):
    """Return a dict of the pairs, and for each the list of the pairs to which the letters lead it.

    Beside each of these stands whether the letter says different words from both states.
    """
    rows = machine[1]
    moves = {}
    for one in range(len(rows)):
        for other in range(one, len(rows)):
            moves[(one, other)] = [_move(rows[one][place], rows[other][place]) for place in range(len(rows[one]))]
    return moves


def _move(one, other):
    return (ordered_pair(one[0], other[0]), one[1] != other[1])


def _pairs_before(moves):
    """Return a dict of the pairs, and for each the list of those that a letter leads to it."""
    before = {pair: [] for pair in moves}
    for pair in moves:
        for follower, _ in moves[pair]:
            before[follower].append(pair)
    return before


def _levels(pairs, further):
    """Return a dict of the pairs with their levels: how often they are among those that further returns.

    further takes a dict of the pairs that are left, and returns a dict of those of them that stay. A pair that stays
    for ever has None.
    """
    levels = {pair: None for pair in pairs}
    left = {pair: True for pair in pairs}
    level = 0
    staying = further(left)
    while len(staying) < len(left):
        for pair in left:
            if pair not in staying:
                levels[pair] = level
        left = staying
        level += 1
        staying = further(left)
    return levels
