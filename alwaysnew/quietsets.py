"""The least sets of quiet words with which a version can go live."""

from alwaysnew.harm import least_harm
from alwaysnew.quietwords import words_said
from alwaysnew.statesets import check_set


def least_quiet(machine, states, *, most=0):
    """Return all least sets of quiet words with which some state has a harm of at most most, ascending."""
    check_set(machine, states)
    names = words_said(machine)
    found = []
    level = [()]
    while level:
        further = []
        for words in level:
            # More quiet words are enough, too: so a set is a least one if it is enough and has no found one in it.
            if any([_lies_in(less, words) for less in found]):
                continue
            if is_enough(machine, states, words, most):
                found.append(words)
            else:
                further.extend([(*words, name) for name in names if not words or name > words[-1]])
        level = further
    return tuple(sorted(found))


def is_enough(machine, states, words, most):
    """Return whether with these quiet words some state has a harm for states that is at most most."""
    choice = least_harm(machine, states, quiet=words)
    return choice is not None and choice[0] <= most


def _lies_in(less, words):
    return all([name in words for name in less])
