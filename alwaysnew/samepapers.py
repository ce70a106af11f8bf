"""Papers that two machines say the same, or that they do not."""

from alwaysnew.alikepapers import alike_paper
from alwaysnew.sameness import side_by_side


def same_paper(one, other, *, quiet=()):
    """Return a same paper of the two machines."""
    first = len(one[1])
    form, found = alike_paper(side_by_side(one, other), 0, first, quiet=quiet)
    if form == "apart":
        return ("apart", found)
    return ("same", tuple([(state, place - first) for state, place in found]))
