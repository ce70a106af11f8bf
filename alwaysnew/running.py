"""Machines that read: where a reading leads, what is said on the way, and which states are reached."""

from alwaysnew.errors import InvalidLetter, InvalidState
from alwaysnew.kinds import is_number


def is_letter(letters, thing):
    """Return whether thing, any value, is one of the letters."""
    return isinstance(thing, str) and thing in letters


def are_letters(letters, things):
    """Return whether all things, any values, are among the letters."""
    return all([is_letter(letters, thing) for thing in things])


def first_stranger(letters, readings):
    """Return the pair (which reading, which element) of the first element that is none of the letters, or None."""
    for at in range(len(readings)):
        for place in range(len(readings[at])):
            if not is_letter(letters, readings[at][place]):
                return (at, place)
    return None


def check_reading(letters, reading):
    """Raise InvalidLetter for the first element of reading that is none of the letters."""
    for thing in reading:
        if not is_letter(letters, thing):
            raise InvalidLetter(thing)


def is_state(machine, thing):
    """Return whether thing, any value, is a state of the machine."""
    return is_number(thing) and thing < len(machine[1])


def check_state(machine, thing):
    """Raise InvalidState if thing, any value, is no state of the machine."""
    if not is_state(machine, thing):
        raise InvalidState(thing)


def check_states(machines, states):
    """Raise InvalidState for the first of states that is no state of its machine."""
    for at in range(len(machines)):
        check_state(machines[at], states[at])


def unsaid(word, quiet):
    """Return the word, or the empty string if it is a quiet one."""
    return "" if word in quiet else word


def led(machine, reading, *, state=0):
    """Return the state to which the reading leads from the state."""
    return _read(machine, reading, state)[0]


def said(machine, reading, *, state=0, quiet=()):
    """Return the tuple of the words that the reading says from the state, quiet ones left unsaid."""
    words = _read(machine, reading, state)[1]
    return tuple([unsaid(word, quiet) for word in words])


def is_parting(machine, one, other, reading, quiet):
    """Return whether the last letter of the reading says different words from both states, quiet ones left unsaid."""
    one_words = said(machine, reading, state=one, quiet=quiet)
    other_words = said(machine, reading, state=other, quiet=quiet)
    return one_words[-1:] != other_words[-1:]


def wrong_words(machine, one, other, reading, quiet):
    """Return the number of words of the reading that both states say differently, quiet ones left unsaid."""
    one_words = said(machine, reading, state=one, quiet=quiet)
    other_words = said(machine, reading, state=other, quiet=quiet)
    return len([at for at in range(len(reading)) if one_words[at] != other_words[at]])


def step(machine, state, letter):
    """Return the pair (next, word) of the letter in the state."""
    check_reading(machine[0], (letter,))
    check_state(machine, state)
    place = machine[0].index(letter)
    follower, word = machine[1][state][place]
    return (follower, word)


def reached_states(machine):
    """Return the ascending tuple of the states to which some past leads."""
    return tuple(sorted([standing[0] for standing in least_ways((machine,))]))


def past_to(machine, state):
    """Return the least past that leads to the state, or None if there is none."""
    check_state(machine, state)
    return least_past((machine,), (state,))


def walked(machine):
    """Return the machine in walked form: the reached states, numbered in the order of their least pasts."""
    letters, rows = machine
    order = [standing[0] for standing in least_ways((machine,))]
    places = {order[place]: place for place in range(len(order))}
    walked_rows = [tuple([(places[follower], word) for follower, word in rows[state]]) for state in order]
    return (letters, tuple(walked_rows))


def quieted(machine, words):
    """Return the machine, its states as they are, that says the empty string in place of each of words."""
    letters, rows = machine
    quiet_rows = [tuple([(follower, unsaid(word, words)) for follower, word in row]) for row in rows]
    return (letters, tuple(quiet_rows))


def least_ways(versions):
    """Return a dict of the reached standings, in the order of their least pasts.

    It gives for each standing the one before it and the letter between, on its least past; None for the start.
    """
    letters = versions[0][0]
    start = (0,) * len(versions)
    ways = {start: None}
    order = [start]
    done = 0
    while done < len(order):
        for place in range(len(letters)):
            follower = standing_moved(versions, order[done], place)
            if follower not in ways:
                ways[follower] = (order[done], letters[place])
                order.append(follower)
        done += 1
    return ways


def standing_moved(versions, standing, place):
    """Return the standing to which the letter with this place leads from the standing."""
    return tuple([versions[at][1][standing[at]][place][0] for at in range(len(versions))])


def past_along(ways, goal):
    """Return the least reading to the goal, found by a dict like that of least_ways."""
    backwards = []
    way = ways[goal]
    while way is not None:
        backwards.append(way[1])
        way = ways[way[0]]
    return tuple(backwards[::-1])


def least_past(versions, standing):
    """Return the least past that leads to the standing, or None if there is none."""
    ways = least_ways(versions)
    return past_along(ways, standing) if standing in ways else None


def _read(machine, reading, state):
    letters, rows = machine
    check_reading(letters, reading)
    check_state(machine, state)
    places = {letters[place]: place for place in range(len(letters))}
    words = []
    for letter in reading:
        state, word = rows[state][places[letter]]
        words.append(word)
    return (state, words)
