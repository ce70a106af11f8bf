"""The words that machines say, and those that must be quiet."""

from alwaysnew.alikeness import are_alike
from alwaysnew.running import check_states


def words_said(machine):
    """Return the set of all names that stand in the rows of the machine as words."""
    return tuple(sorted(set([word for row in machine[1] for _, word in row if word != ""])))


def parting_words(machine, one, other):
    """Return the set of those names that must be quiet if the two states are to be alike."""
    check_states((machine, machine), (one, other))
    names = words_said(machine)
    parting = []
    for name in names:
        others = tuple([word for word in names if word != name])
        if not are_alike(machine, one, other, quiet=others):
            parting.append(name)
    return tuple(parting)
