"""The standings of several versions that read the same letters."""

from alwaysnew.running import check_reading, check_states, is_state, least_past, least_ways, led


def standing_after(versions, past):
    """Return the standing to which the past leads."""
    return standing_led(versions, (0,) * len(versions), past)


def reached_standings(versions):
    """Return the set of all standings that are reached."""
    return tuple(sorted(least_ways(versions)))


def past_to_standing(versions, standing):
    """Return the least of the shortest pasts that lead to the standing, or None if it is not reached."""
    check_states(versions, standing)
    return least_past(versions, standing)


def standings_led(versions, standings, reading):
    """Return the set of the standings to which the reading leads from the standings."""
    # Without any standing nothing else would look at the reading.
    check_reading(versions[0][0], reading)
    return tuple(sorted(set([standing_led(versions, standing, reading) for standing in standings])))


def standing_led(versions, standing, reading):
    """Return the standing to which the reading leads from the standing."""
    return tuple([led(versions[at], reading, state=standing[at]) for at in range(len(versions))])


def is_standing(versions, thing):
    """Return whether thing, any value, is a tuple with a state of each version."""
    if not isinstance(thing, tuple) or len(thing) != len(versions):
        return False
    return all([is_state(versions[at], thing[at]) for at in range(len(versions))])
