"""Papers of the harm of which one can be sure who waits."""

from alwaysnew.choosing import sure_harm
from alwaysnew.harm import least_choice
from alwaysnew.harmpapers import paper_of
from alwaysnew.running import quieted
from alwaysnew.statepairs import is_beyond, pair_harms
from alwaysnew.statesets import sets_led


def choice_paper(machine, states, many, *, quiet=()):
    """Return a choice paper with the harm that sure_harm returns."""
    sure = sure_harm(machine, states, many, quiet=quiet)
    quiet_machine = quieted(machine, quiet)
    harms = pair_harms(quiet_machine)
    rows = {}
    order = [(many, states)]
    while order:
        left, known = order.pop()
        choice = least_choice(machine, harms, known)
        harm, state = (None, 0) if choice is None else choice
        if sure is None or not is_beyond(harm, sure):
            rows[(left, known)] = (state, paper_of(quiet_machine, harms, state, known))
        else:
            # One waits only where this harm needs it: so it is over soon, however many letters are left.
            rows[(left, known)] = ()
            behind = [(left - 1, follower) for follower in sets_led(machine, known)]
            order.extend([key for key in behind if key not in rows])
    return tuple([(*key, rows[key]) for key in sorted(rows)])
