"""The least machine that says the same."""

from alwaysnew.alikeness import classes_of
from alwaysnew.running import quieted, walked


def least_machine(machine, *, quiet=()):
    """Return the machine in walked form with the fewest states that says the same, quiet words left unsaid."""
    letters, rows = quieted(machine, quiet)
    classes = classes_of((letters, rows))
    merged = [tuple([(classes[follower], word) for follower, word in row]) for row in rows]
    return walked((letters, tuple(merged)))


def is_least(machine):
    """Return whether the machine is equal to its least machine."""
    return machine == least_machine(machine)
