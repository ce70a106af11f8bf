"""What can come of each two states of a machine, if one of them is taken for the other.

A pair may be that of a state and itself here. A number that has no bound is None.
"""

from alwaysnew.alikeness import classes_of, parting_way
from alwaysnew.pairs import ordered_pair
from alwaysnew.running import led


def pair_waits(machine, quiet):
    """Return a dict of the pairs: the least number of letters after which both states are alike, whatever is read."""
    classes = classes_of(machine, quiet=quiet)

    def goes_on(pair, left):
        """Return whether the states are not alike, and a letter leads them to one of the pairs left."""
        one, other = pair
        if classes[one] == classes[other]:
            return False
        return any([follower in left for follower in _followers(machine, one, other)])

    return _levels(machine, goes_on)


def pair_harms(machine):
    """Return a dict of the pairs: the greatest number of words in a reading that both states say differently."""

    def goes_on(pair, left):
        """Return whether a reading with a wrong word leads the states to one of the pairs left."""
        one, other = pair
        return parting_way(machine, one, other, left) is not None

    return _levels(machine, goes_on)


def reading_with(machine, harms, pair, many):
    """Return a reading in which both states of the pair, whose harm is at least many, say so many words differently."""
    reading = ()
    for left in range(many - 1, -1, -1):
        goals = {goal: True for goal in harms if harms[goal] is None or harms[goal] >= left}
        way = parting_way(machine, pair[0], pair[1], goals)
        pair = pair_led(machine, pair, way)
        reading = (*reading, *way)
    return reading


def pair_led(machine, pair, reading):
    """Return the two states to which the reading leads those of the pair, in the order of these."""
    one, other = pair
    return (led(machine, reading, state=one), led(machine, reading, state=other))


def greatest(numbers):
    """Return the greatest of the numbers, None if one of them has no bound."""
    return None if None in numbers else max(numbers)


def is_beyond(number, most):
    """Return whether the number is greater than most, or has no bound."""
    return number is None or number > most


def _levels(machine, goes_on):
    """Number the pairs: 0 those that do not go on to any pair, 1 the others that go on to such ones only, and so on.

    goes_on takes a pair and a dict, and returns whether the pair goes on to one of those in the dict. A pair that
    goes on for ever has None.
    """
    many = len(machine[1])
    left = {(one, other): True for one in range(many) for other in range(one, many)}
    levels = {pair: None for pair in left}
    level = 0
    further = {pair: True for pair in left if goes_on(pair, left)}
    while len(further) < len(left):
        for pair in left:
            if pair not in further:
                levels[pair] = level
        level += 1
        left = further
        further = {pair: True for pair in left if goes_on(pair, left)}
    return levels


def _followers(machine, one, other):
    one_row, other_row = machine[1][one], machine[1][other]
    return [ordered_pair(one_row[place][0], other_row[place][0]) for place in range(len(one_row))]
