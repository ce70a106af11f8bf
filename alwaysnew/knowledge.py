"""What is known about the states in which all versions would be."""

from alwaysnew.errors import InvalidKnowledge, NotReached
from alwaysnew.kinds import is_number
from alwaysnew.running import check_reading, least_ways
from alwaysnew.standings import is_standing, reached_standings, standing_after, standings_led


class Knowledge:
    """A nonempty set of reached standings of versions. A knowledge never changes."""

    def __init__(self, versions, standings):
        _check_versions(versions)
        _check_standings(versions, standings)
        self._versions = tuple(versions)
        self._standings = tuple(sorted(set(standings)))

    @property
    def versions(self):
        """The tuple of the machines."""
        return self._versions

    @property
    def standings(self):
        """The set of the standings."""
        return self._standings

    def __len__(self):
        return len(self._standings)

    def __contains__(self, thing):
        # True is no state, although Python takes it for 1.
        return is_standing(self._versions, thing) and thing in self._standings

    def __eq__(self, other):
        if not isinstance(other, Knowledge):
            return False
        return self._versions == other._versions and self._standings == other._standings

    def __call__(self, letter):
        return self.after(letter)

    def __or__(self, other):
        _check_same_versions(self, other)
        return Knowledge(self._versions, (*self._standings, *other.standings))

    def __and__(self, other):
        _check_same_versions(self, other)
        return _narrowed(self, other.standings)

    @staticmethod
    def begun(*machines):
        """Return the knowledge that nothing was read."""
        return Knowledge(machines, ((0,) * len(machines),))

    @staticmethod
    def any_past(*machines):
        """Return the knowledge that anything may have been read."""
        _check_versions(machines)
        return Knowledge(machines, reached_standings(machines))

    def places(self, i):
        """Return the set of the states in which version i can be."""
        _check_index(self, i)
        return tuple(sorted(set([standing[i] for standing in self._standings])))

    def allows(self, past):
        """Return whether the past leads to one of the standings."""
        return standing_after(self._versions, past) in self._standings

    def after(self, *letters):
        """Return the knowledge led on by the letters."""
        return Knowledge(self._versions, standings_led(self._versions, self._standings, letters))

    def extended(self, machine, *, tail=()):
        """Return the knowledge extended by the machine, for the pasts that end with the tail."""
        check_reading(self._versions[0][0], tail)
        versions = (*self._versions, machine)
        _check_versions(versions)
        found = _standings_behind(versions, tail)
        return Knowledge(versions, [standing for standing in found if standing[:-1] in self._standings])

    def forgotten(self, i):
        """Return the knowledge without version i."""
        _check_index(self, i)
        if len(self._versions) == 1:
            raise InvalidKnowledge("last", -1)
        versions = (*self._versions[:i], *self._versions[i + 1:])
        return Knowledge(versions, [(*standing[:i], *standing[i + 1:]) for standing in self._standings])

    def cut(self, tail):
        """Return the knowledge cut by the tail."""
        return _narrowed(self, _standings_behind(self._versions, tail))

    def lies_in(self, other):
        """Return whether each standing is one of the other knowledge."""
        _check_same_versions(self, other)
        return all([standing in other.standings for standing in self._standings])


def _check_versions(versions):
    if not versions:
        raise InvalidKnowledge("none", -1)
    for i in range(len(versions)):
        if versions[i][0] != versions[0][0]:
            raise InvalidKnowledge("letters", i)


def _check_standings(versions, standings):
    if not standings:
        raise InvalidKnowledge("empty", -1)
    for at in range(len(standings)):
        if not is_standing(versions, standings[at]):
            raise InvalidKnowledge("standing", at)
    ways = least_ways(versions)
    for standing in standings:
        if standing not in ways:
            raise NotReached(standing)


def _check_same_versions(one, other):
    if one.versions != other.versions:
        raise InvalidKnowledge("versions", -1)


def _check_index(k, i):
    if not is_number(i) or i >= len(k.versions):
        raise InvalidKnowledge("version", i)


def _narrowed(k, standings):
    """Return the knowledge with those of its standings that are among the given ones."""
    return Knowledge(k.versions, [standing for standing in k.standings if standing in standings])


def _standings_behind(versions, tail):
    """Return the set of the standings to which a past leads that ends with the tail."""
    return standings_led(versions, reached_standings(versions), tail)
