"""A service that computes everything slowly and plainly, by the words of [61] to [70], and events for it."""

import copy
import functools
import random

from alwaysnew.errors import InvalidEvent
from tests.changes import like, name
from tests.examples import (FIRST, GAPS, LAST, NEW, OLD, SIXTY, THREE, caught, made_machine, plain_reached, plain_run)
from tests.harmexamples import (STUCK, SWAP, WIDE, falling_machine, plain_heals, plain_latest, plain_least_harm,
                                plain_least_quiet, plain_soonest, unlike)
from tests.tailexamples import BRIEF, FLIP, SILENT, TWO

AB = (OLD, NEW, FIRST, LAST, SILENT, FLIP, STUCK, SWAP, GAPS)
WIDES = (THREE, WIDE, made_machine(1, 3, THREE[0]), falling_machine(2, 4, THREE[0], ('', 'p', 'q')),
         (THREE[0], (((0, ''),) * 3,)))


def is_machine(thing):
    """Return whether a value is a machine, by the words of [3]."""
    if type(thing) is not tuple or len(thing) != 2 or type(thing[0]) is not tuple or type(thing[1]) is not tuple:
        return False
    letters, rows = thing
    if not letters or not rows or not all(map(name, letters)) or list(letters) != sorted(set(letters)):
        return False
    for row in rows:
        if type(row) is not tuple or len(row) != len(letters):
            return False
        for pair in row:
            if not like(pair, number, lambda word: type(word) is str and word == '' or name(word)):
                return False
            if pair[0] >= len(rows):
                return False
    return True


def number(thing):
    """Return whether a value is a number."""
    return type(thing) is int and thing >= 0


def is_names(thing):
    """Return whether a value is a set of names."""
    return type(thing) is tuple and all(map(name, thing)) and list(thing) == sorted(set(thing))


KINDS = {'read': (name,), 'plan': (is_machine,), 'replace': (number,), 'force': (number, number),
         'quiet': (is_names,), 'forget': (number,)}


def is_event(thing):
    """Return whether a value is an event by kind, by the words of [61]."""
    if type(thing) is not tuple or not thing or type(thing[0]) is not str or thing[0] not in KINDS:
        return False
    return like(thing, thing[0], *KINDS[thing[0]])


@functools.cache
def reached_by(versions):
    """Return the standings that are reached."""
    return frozenset(plain_reached(versions))


class Plain:
    """A service without any shortcut."""

    def __init__(self, machine, quiet=()):
        self.beginning = ('service', machine, quiet)
        self.versions, self.known, self.live, self.state, self.quiet = (machine,), {(0,)}, 0, 0, quiet
        self.events, self.letters, self.wrong = [], [], []

    def places(self, version):
        """Return the states in which a version can be."""
        return tuple(sorted({standing[version] for standing in self.known}))

    def true_states(self, version, quiet):
        """Return the true states of a version."""
        machine = self.versions[version]
        return tuple(state for state in range(len(machine[1]))
                     if not any(unlike(machine, state, place, quiet) for place in self.places(version)))

    def is_true(self, quiet=None):
        """Return whether the live state is true, with the present quiet words or others."""
        return self.state in self.true_states(self.live, self.quiet if quiet is None else quiet)

    def ready(self):
        """Return the versions that are ready."""
        return tuple(i for i in range(len(self.versions)) if self.true_states(i, self.quiet))

    def reason(self, event):
        """Return the reason for which an event is not possible, or None."""
        if not is_event(event):
            return 'shape'
        if len(self.events) == 60:
            return 'full'
        kind, value = event[:2]
        is_index = kind in ('replace', 'force', 'forget') and value < len(self.versions)
        reasons = {
            'read': [('letter', lambda: value not in self.versions[0][0])],
            'plan': [('letters', lambda: value[0] != self.versions[0][0]), ('many', lambda: len(self.versions) == 3)],
            'replace': [('version', lambda: not is_index), ('live', lambda: value == self.live and self.is_true()),
                        ('ready', lambda: value not in self.ready())],
            'force': [('version', lambda: not is_index),
                      ('state', lambda: event[2] >= len(self.versions[value][1]))],
            'quiet': [('loud', lambda: self.is_true() and not self.is_true(value))],
            'forget': [('version', lambda: not is_index), ('live', lambda: value == self.live)],
        }
        return next((word for word, applies in reasons[kind] if applies()), None)

    def go(self, event):
        """Apply an event that is possible and return what is said."""
        kind, value = event[:2]
        word = self.read(value) if kind == 'read' else ''
        if kind == 'plan':
            self.versions += (value,)
            self.known = {standing for standing in reached_by(self.versions) if standing[:-1] in self.known}
        elif kind == 'replace':
            self.live, self.state = value, min(self.true_states(value, self.quiet))
        elif kind == 'force':
            self.live, self.state = event[1:]
        elif kind == 'quiet':
            self.quiet = value
        elif kind == 'forget':
            self.versions = self.versions[:value] + self.versions[value + 1:]
            self.known = {standing[:value] + standing[value + 1:] for standing in self.known}
            self.live -= self.live > value
        self.events.append(event)
        return word

    def read(self, letter):
        """Read a letter and return what is said."""
        machine = self.versions[self.live]
        after, words = plain_run(machine, (letter,), self.state, self.quiet)
        # The last word that the live version would have said from the beginning.
        if words[-1] != plain_run(machine, (*self.letters, letter), 0, self.quiet)[1][-1]:
            self.wrong.append(len(self.letters))
        self.state = after
        self.known = {tuple(plain_run(one, (letter,), state)[0] for one, state in zip(self.versions, standing))
                      for standing in self.known}
        self.letters.append(letter)
        return words[0]

    def log(self):
        """Return the log."""
        return (self.beginning, *self.events)

    def copy(self):
        """Return a copy that goes its own way."""
        return copy.deepcopy(self)

    def table(self):
        """Return the table."""
        lines = []
        for i, machine in enumerate(self.versions):
            word = 'ready' if i in self.ready() else '-'
            if i == self.live:
                word = 'live' if self.is_true() else 'wrong'
            lines.append(f'{i:>2} {len(machine[1]):>3} {",".join(map(str, self.places(i)))} {word}')
        return lines

    def everything(self):
        """Return all that a service tells of itself, but for advice."""
        return (self.versions, tuple(sorted(self.known)), self.live, self.state, self.quiet, self.is_true(),
                self.ready(), len(self.known), len(self.events), tuple(self.wrong), self.table(), self.log(),
                [self.places(i) for i in range(len(self.versions))])

    def advice(self, version):
        """Return what the methods of [70] return for a version."""
        machine, states, quiet = self.versions[version], self.places(version), self.quiet
        return (plain_soonest(machine, states, quiet), plain_latest(machine, states, quiet),
                plain_least_harm(machine, states, quiet),
                [plain_least_quiet(machine, states, most) for most in (0, 0, 1, 2)],
                plain_heals(self.versions[self.live], self.state, self.places(self.live), quiet))


def everything(service):
    """Return the same as Plain.everything, of a service."""
    return (service.versions, service.knowledge.standings, service.live, service.live_state, service.quiet,
            service.is_true, service.ready, service.memory, len(service), service.wrongs(), service.table(),
            service.log(), [service[i] for i in range(len(service.versions))])


def events_for(machines, seed, many, force=True):
    """Yield many events, possible ones and others, that depend on the seed only."""
    chance = random.Random(seed)
    letters = machines[0][0]
    words = [(), (), ('x',), ('no', 'yes'), ('x', 'y'), ('p', 'q', 'r', 's'), ('no', 'x', 'y', 'yes', 'z')]
    for _ in range(many):
        kind = chance.choice(('read',) * 6 + ('plan',) * 3 + ('replace',) * 3 + ('forget',) * 2 + ('quiet', 'force'))
        if kind == 'read':
            yield kind, chance.choice((*letters, *letters, *letters, *letters, 'zz'))
        elif kind == 'plan':
            yield kind, chance.choice(machines) if chance.random() < 0.9 else (('zz',), (((0, ''),),))
        elif kind == 'quiet':
            yield kind, chance.choice(words)
        elif kind == 'force':
            if force:
                yield kind, chance.randrange(4), chance.randrange(5)
        else:
            yield kind, chance.choice((0, 0, 1, 1, 2, 2, 3, SIXTY))


def service_starts():
    """Yield machines to begin with, with quiet words, and all machines with the same letters."""
    for machines in (AB, WIDES, (TWO, BRIEF, OLD, NEW)):
        for at, machine in enumerate(machines):
            yield machine, ((), ('x',), ('no', 'yes'))[at % 3], machines



def refused(call, *args, **named):
    """Return the event and the reason of the InvalidEvent that a call raises twice, the event as the object it is."""
    found = caught(call, *args, **named)
    assert found is None or found[0] is InvalidEvent, found
    return found and found[1:]
