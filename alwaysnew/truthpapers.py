"""Papers that a state is true for a knowledge, or that it is not."""

from alwaysnew.alikepapers import alike_paper
from alwaysnew.standings import past_to_standing


def truth_paper(k, i, t, *, quiet=()):
    """Return a truth paper of the state t of version i."""
    places = k.places(i)
    papers = [alike_paper(k.versions[i], t, place, quiet=quiet) for place in places]
    for at in range(len(places)):
        form, found = papers[at]
        if form == "apart":
            return ("wrong", _past_to_place(k, i, places[at]), found)
    return ("true", tuple(papers))


def _past_to_place(k, i, place):
    standings = [standing for standing in k.standings if standing[i] == place]
    return past_to_standing(k.versions, standings[0])
