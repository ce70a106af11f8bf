"""Services: they read letters, and their versions are replaced while they run."""

from alwaysnew.errors import InvalidEvent, NothingToUndo
from alwaysnew.events import is_event
from alwaysnew.eventtexts import event_line
from alwaysnew.harm import heals_within, least_harm
from alwaysnew.kinds import is_quiet
from alwaysnew.machinechecker import lets_machine
from alwaysnew.moments import (first_moment, is_right, live_machine, moment_after, reason_against, word_from, word_of)
from alwaysnew.quietsets import least_quiet
from alwaysnew.readiness import ready_versions
from alwaysnew.running import led
from alwaysnew.waiting import latest, soonest

VERSION_WIDTH = 2
STATES_WIDTH = 3


class Service:
    """A service with its versions, what is known of them, the live one and its state, and the quiet words."""

    MOST = 60
    VERSIONS = 3

    def __init__(self, machine, *, quiet=()):
        lets_machine(machine)
        if not is_quiet(quiet):
            raise InvalidEvent(("quiet", quiet), "shape")
        self._beginning = ("service", machine, quiet)
        self._events = []
        # The moment before each of the events, and the present one: so undo need not compute anything.
        self._moments = [first_moment(machine, quiet)]
        self._calls = 0

    @property
    def versions(self):
        """The tuple of the machines."""
        return self.knowledge.versions

    @property
    def knowledge(self):
        """What is known of the states in which the versions would be."""
        return self._moments[-1].known

    @property
    def live(self):
        """The index of the live version."""
        return self._moments[-1].version

    @property
    def live_state(self):
        """The state of the live version."""
        return self._moments[-1].state

    @property
    def quiet(self):
        """The quiet words."""
        return self._moments[-1].hushed

    @property
    def is_true(self):
        """Whether the live state is true."""
        return is_right(self._moments[-1], self.quiet)

    @property
    def ready(self):
        """The set of the indices of the versions that are ready."""
        return ready_versions(self.knowledge, quiet=self.quiet)

    @property
    def memory(self):
        """The number of the standings of the knowledge."""
        return len(self.knowledge)

    def __len__(self):
        return len(self._events)

    def __contains__(self, thing):
        return thing in self.knowledge

    def __getitem__(self, version):
        return self.knowledge.places(version)

    def __iter__(self):
        # Without this, Python would ask for one version after the other.
        raise TypeError("a service cannot be iterated over")

    def __eq__(self, other):
        return isinstance(other, Service) and self.log() == other.log()

    def __str__(self):
        if not self._events:
            return "-"
        return " / ".join([event_line(event) for event in self._events])

    def __call__(self, letter):
        return self.read(letter)

    def read(self, letter):
        """Read the letter, and return the word that is said."""
        return self.go(("read", letter))

    def plan(self, machine):
        """Plan the machine as the last version."""
        return self.go(("plan", machine))

    def replace(self, version):
        """Let the version go live in a true state."""
        return self.go(("replace", version))

    def force(self, version, target):
        """Let the version go live in the state target, true or not."""
        return self.go(("force", version, target))

    def forget(self, version):
        """Forget the version."""
        return self.go(("forget", version))

    def set_quiet(self, words):
        """Let the words be the quiet ones from now on."""
        return self.go(("quiet", words))

    def go(self, event):
        """Apply the event, any value, and return what is said."""
        self._calls += 1
        return self._apply(event)

    def tried(self, *events):
        """Return the tuple of what would be said by the events, or raise the first error; nothing changes."""
        moment = self._moments[-1]
        words = []
        for at in range(len(events)):
            _check(moment, events[at], len(self._events) + at)
            words.append(word_of(moment, events[at]))
            moment = moment_after(moment, events[at])
        return tuple(words)

    def undo(self):
        """Take back the last event and return it."""
        self._calls += 1
        if not self._events:
            raise NothingToUndo(0)
        self._moments.pop()
        return self._events.pop()

    def do_all(self, *events, keep=False):
        """Apply the events and return their number; after an error keep those before it only if keep is True."""
        self._calls += 1
        if not keep:
            # It raises the first error before anything is changed.
            self.tried(*events)
        return self.follow(events)

    def follow(self, events):
        """Apply the events and return their number, without counting this."""
        for event in events:
            self._apply(event)
        return len(events)

    def counts(self):
        """Return the numbers of started and of finished operations."""
        # Nothing can ask while an operation runs: so each one that was started is finished, with an error or without.
        return (self._calls, self._calls)

    def log(self):
        """Return the tuple of the beginning and the events."""
        return (self._beginning, *self._events)

    def wrongs(self):
        """Return the set of the indices of the reads whose words were wrong."""
        letters = []
        wrong = []
        for at in range(len(self._events)):
            kind, value = self._events[at][:2]
            if kind == "read":
                moment = self._moments[at]
                true = led(live_machine(moment), letters)
                if word_from(moment, true, value) != word_from(moment, moment.state, value):
                    wrong.append(len(letters))
                letters.append(value)
        return tuple(wrong)

    def table(self):
        """Return a list with a string for each version."""
        ready = self.ready
        return [self._table_row(version, version in ready) for version in range(len(self.versions))]

    def soonest_reading(self, version):
        """Return the least of the shortest readings with which the version is ready, or None."""
        states = self[version]
        return soonest(self.versions[version], states, quiet=self.quiet)

    def latest_wait(self, version):
        """Return after how many letters the version is ready, whatever they are, or None."""
        states = self[version]
        return latest(self.versions[version], states, quiet=self.quiet)

    def heal_time(self):
        """Return after how many letters the live state is true, whatever they are, or None."""
        return heals_within(self.versions[self.live], self.live_state, self[self.live], quiet=self.quiet)

    def harm_now(self, version):
        """Return the least harm if the version goes live now, and the least such state, or None."""
        states = self[version]
        return least_harm(self.versions[version], states, quiet=self.quiet)

    def quiet_needed(self, version, *, most=0):
        """Return the least sets of quiet words with which the version can go live now."""
        states = self[version]
        return least_quiet(self.versions[version], states, most=most)

    def _apply(self, event):
        moment = self._moments[-1]
        _check(moment, event, len(self._events))
        self._events.append(event)
        self._moments.append(moment_after(moment, event))
        return word_of(moment, event)

    def _table_row(self, version, is_ready):
        words = ("live", "wrong") if version == self.live else ("ready", "-")
        # The live version can be ready although its live state is not true.
        is_good = self.is_true if version == self.live else is_ready
        many = len(self.versions[version][1])
        states = ",".join([str(state) for state in self[version]])
        index = str(version).rjust(VERSION_WIDTH)
        return f"{index} {str(many).rjust(STATES_WIDTH)} {states} {words[0] if is_good else words[1]}"


def _check(moment, event, many):
    """Raise InvalidEvent if the event, any value, is not possible in a service with many events."""
    if not is_event(event):
        raise InvalidEvent(event, "shape")
    if many >= Service.MOST:
        raise InvalidEvent(event, "full")
    reason = reason_against(moment, event, Service.VERSIONS)
    if reason:
        raise InvalidEvent(event, reason)
