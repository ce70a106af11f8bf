"""Sets of states of a machine, one of which is the true one."""

from alwaysnew.running import check_state, led


def check_set(machine, states):
    """Raise InvalidState for the first element of states that is no state of the machine."""
    for state in states:
        check_state(machine, state)


def is_set(machine, numbers):
    """Return whether a tuple of numbers is an ascending nonempty tuple of states of the machine."""
    ascending = all([numbers[at - 1] < numbers[at] for at in range(1, len(numbers))])
    return ascending and len(numbers) > 0 and numbers[-1] < len(machine[1])


def are_ready(classes, states):
    """Return whether each two of the states are alike; classes is what classes_of returns."""
    return len(set([classes[state] for state in states])) == 1


def set_led(machine, states, reading):
    """Return the set of the states to which the reading leads from states."""
    return tuple(sorted(set([led(machine, reading, state=state) for state in states])))


def sets_led(machine, states):
    """Return the list of the sets to which the letters, in order, lead states."""
    return [set_led(machine, states, (letter,)) for letter in machine[0]]


def set_ways(machine, states):
    """Return a dict of the sets to which readings lead states, in the order of the least readings to them.

    It gives for each set the one before it and the letter between, on this reading; None for states.
    """
    ways = {states: None}
    order = [states]
    done = 0
    while done < len(order):
        followers = sets_led(machine, order[done])
        for place in range(len(followers)):
            if followers[place] not in ways:
                ways[followers[place]] = (order[done], machine[0][place])
                order.append(followers[place])
        done += 1
    return ways
