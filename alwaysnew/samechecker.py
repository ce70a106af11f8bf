"""The checker of same papers."""

from alwaysnew.alikechecker import check_apart, check_followers, has_shape
from alwaysnew.errors import InvalidPaper
from alwaysnew.pairs import are_paired, rises
from alwaysnew.running import quieted
from alwaysnew.sameness import side_by_side


def lets_same(one, other, thing, *, quiet=()):
    """Return True for a right paper that the machines say the same, False for a right one that they do not.

    Raise InvalidPaper for any other value.
    """
    if not has_shape(thing, "same"):
        raise InvalidPaper("shape", -1)
    # Side by side no two states of a pair are equal: so each pair that is led to must be one of the pairs.
    both = side_by_side(one, other)
    first = len(one[1])
    if thing[0] == "apart":
        check_apart(both, 0, first, thing[1], quiet)
        return False
    _check_order(one, other, thing[1])
    pairs = [(state, first + place) for state, place in thing[1]]
    if not are_paired(0, first, pairs):
        raise InvalidPaper("lacks", -1)
    check_followers(quieted(both, quiet)[1], pairs)
    return True


def _check_order(one, other, pairs):
    for at in range(len(pairs)):
        if pairs[at][0] >= len(one[1]) or pairs[at][1] >= len(other[1]) or not rises(pairs, at):
            raise InvalidPaper("pair", at)
