"""The kinds of values that the package knows, told by the values alone."""

ALPHABET = "abcdefghijklmnopqrstuvwxyz"
LONGEST_NAME = 8


def is_integer(thing):
    """Return whether thing is an integer; a bool is none."""
    return isinstance(thing, int) and not isinstance(thing, bool)


def is_number(thing):
    """Return whether thing is an integer that is at least 0."""
    return is_integer(thing) and thing >= 0


def is_name(thing):
    """Return whether thing is a string of one to eight lowercase letters of the alphabet."""
    if not isinstance(thing, str) or not 1 <= len(thing) <= LONGEST_NAME:
        return False
    return all([sign in ALPHABET for sign in thing])


def is_word(thing):
    """Return whether thing is a name or the empty string."""
    return thing == "" or is_name(thing)


def is_reading(thing):
    """Return whether thing is a tuple of names."""
    return isinstance(thing, tuple) and all([is_name(name) for name in thing])


def are_numbers(thing):
    """Return whether thing is a tuple of numbers."""
    return isinstance(thing, tuple) and all([is_number(part) for part in thing])


def is_number_pair(thing):
    """Return whether thing is a tuple of two numbers."""
    return are_numbers(thing) and len(thing) == 2


def is_quiet(thing):
    """Return whether thing is a set of names: an ascending tuple, possibly empty."""
    return is_reading(thing) and all([thing[at - 1] < thing[at] for at in range(1, len(thing))])


def is_letters(thing):
    """Return whether thing is an ascending nonempty tuple of names."""
    return is_quiet(thing) and len(thing) > 0
