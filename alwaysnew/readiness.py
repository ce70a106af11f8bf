"""Which states are true for a knowledge, and which versions are ready."""

from alwaysnew.alikeness import classes_of
from alwaysnew.running import check_state


def true_states(k, i, *, quiet=()):
    """Return the set of all states of version i that are true."""
    places = k.places(i)
    classes = classes_of(k.versions[i], quiet=quiet)
    known = sorted(set([classes[place] for place in places]))
    return tuple([state for state in range(len(classes)) if [classes[state]] == known])


def is_true(k, i, t, *, quiet=()):
    """Return whether the state t of version i is true."""
    found = true_states(k, i, quiet=quiet)
    check_state(k.versions[i], t)
    return t in found


def is_ready(k, i, *, quiet=()):
    """Return whether version i is ready."""
    return len(true_states(k, i, quiet=quiet)) > 0


def ready_versions(k, *, quiet=()):
    """Return the set of the indexes of the versions that are ready."""
    return tuple([i for i in range(len(k.versions)) if is_ready(k, i, quiet=quiet)])
