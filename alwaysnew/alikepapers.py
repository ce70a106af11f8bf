"""Papers that two states are alike, or that they are not."""

from alwaysnew.alikeness import pair_ways, parting_reading
from alwaysnew.running import quieted


def alike_paper(machine, one, other, *, quiet=()):
    """Return an alike paper of the two states."""
    reading = parting_reading(machine, one, other, quiet=quiet)
    if reading is not None:
        return ("apart", reading)
    ways = pair_ways(quieted(machine, quiet), one, other)[0]
    return ("alike", tuple(sorted(ways)))
