"""[67] to [71]: trying, taking back, many events at once, counts, wrong words, the table, advice, and what follows."""

import copy
import itertools
import random
import unittest

from alwaysnew.errors import InvalidEvent, InvalidKnowledge, InvalidState, NothingToUndo
from alwaysnew.harm import heals_within, least_harm
from alwaysnew.quietsets import least_quiet
from alwaysnew.services import Service
from alwaysnew.waiting import latest, soonest
from tests.examples import FIRST, LAST, LATE, NEW, ODD, OLD, SIXTY, THREE, caught, is_new_kind, plain_run
from tests.serviceexamples import Plain, events_for, everything, refused, service_starts

YESNO = ('no', 'yes')
EVENTS = (('plan', NEW), ('quiet', YESNO), ('replace', 1), ('read', 'b'))


def possible_events(machine, quiet, machines, seed, many):
    """Return a list of events that are possible one after the other, and the plain service behind them."""
    plain, events = Plain(machine, quiet), []
    for event in events_for(machines, seed, many):
        if plain.reason(event) is None:
            plain.go(event)
            events.append(event)
    return events, plain


def runs(parts=2, many=70):
    """Yield a new service, possible events for it, the plain service behind them, and the machines."""
    for seed, (machine, quiet, machines) in enumerate(service_starts()):
        for part in range(parts):
            events, plain = possible_events(machine, quiet, machines, 100 + 10 * seed + part, many)
            yield Service(machine, quiet=quiet), events, plain, machines


class TriedTest(unittest.TestCase):
    def test_the_example(self):
        self.assertEqual(Service(OLD).tried(*EVENTS), ('', '', '', ''))

    def test_what_is_said(self):
        for service, events, _, machines in runs():
            words = service.tried(*events)
            self.assertEqual((len(service), service.counts()), (0, (0, 0)))
            self.assertEqual(words, tuple(service.go(event) for event in events))
            self.assertTrue(is_new_kind(words))
            before = everything(service)
            for event in events_for(machines, len(events), 8):
                if caught(service.tried, event) is None:
                    self.assertEqual(service.tried(event)[0] != '', Plain.go(self.plain(service), event) != '')
            self.assertEqual(everything(service), before)

    def plain(self, service):
        """Return a plain service after the same events."""
        _, machine, quiet = service.log()[0]
        plain = Plain(machine, quiet)
        for event in service.log()[1:]:
            plain.go(event)
        return plain

    def test_no_events(self):
        self.assertEqual(Service(OLD).tried(), ())

    def test_the_first_error(self):
        service = Service(OLD)
        for events, event, reason in (((('read', 'a'), ('read', 'c'), None), ('read', 'c'), 'letter'),
                                      ((('plan', LAST), ('read', 'a'), ('replace', 1), 9), 9, 'shape'),
                                      ((('read', 'a'), ('plan', NEW), ('replace', 1), 0), ('replace', 1), 'ready'),
                                      ((5, ('read', 'c')), 5, 'shape'),
                                      ((('plan', LAST), ('forget', 1), ('replace', 1)), ('replace', 1), 'version'),
                                      ((('forget', 1), ('plan', NEW)), ('forget', 1), 'version')):
            self.assertEqual(refused(service.tried, *events), (event, reason))
            self.assertEqual((len(service), service.counts(), service.versions), (0, (0, 0), (OLD,)))

    def test_full_counts_the_tried_events(self):
        for before in (0, 1, 30, 59, 60):
            service = Service(OLD)
            for _ in range(before):
                service.read('a')
            left = 60 - before
            self.assertEqual(service.tried(*[('read', 'b')] * left), ('',) * left)
            self.assertEqual(refused(service.tried, *[('read', 'b')] * (left + 1)), (('read', 'b'), 'full'))
            self.assertEqual(refused(service.tried, *[('read', 'b')] * left, None), (None, 'shape'))
            self.assertEqual(len(service), before)


class UndoTest(unittest.TestCase):
    def test_back_to_the_beginning_and_once_more(self):
        for service, events, plain, _ in runs():
            told = [everything(service)]
            for event in events:
                service.go(event)
                told.append(everything(service))
            for event in reversed(events):
                self.assertEqual(everything(service), told.pop())
                self.assertEqual(service.undo(), event)
            self.assertEqual([everything(service)], told)
            self.assertEqual(caught(service.undo), (NothingToUndo, 0))
            self.assertEqual([everything(service)], told)
            self.assertEqual(service.counts(), (2 * len(events) + 2,) * 2)
            for event in events:
                service.go(event)
            self.assertEqual(everything(service), plain.everything())

    def test_nothing_to_undo(self):
        service = Service(OLD)
        for many in (1, 2, 3):
            with self.assertRaises(NothingToUndo) as found:
                service.undo()
            self.assertEqual((found.exception.steps, service.counts()), (0, (many, many)))
        self.assertEqual(everything(service), everything(Service(OLD)))

    def test_the_very_event(self):
        service, event = Service(OLD), ('plan', copy.deepcopy(NEW))
        service.go(event)
        self.assertEqual(service.undo(), event)
        service.read('a')
        self.assertEqual(service.undo(), ('read', 'a'))
        service.set_quiet(('x',))
        self.assertEqual((service.undo(), service.quiet), (('quiet', ('x',)), ()))


class DoAllTest(unittest.TestCase):
    def test_many_events(self):
        for service, events, plain, _ in runs():
            middle = len(events) // 2
            self.assertEqual(service.do_all(*events[:middle]), middle)
            self.assertEqual(service.do_all(*events[middle:], keep=True), len(events) - middle)
            self.assertEqual(everything(service), plain.everything())
            self.assertEqual(service.counts(), (2, 2))

    def test_errors_with_and_without_keep(self):
        for number, (service, events, plain, machines) in enumerate(runs(1)):
            wrong = [event for event in (*events_for(machines, number, 40), None, ('read', 'zz'))
                     if plain.reason(event)][0]
            at = number % (len(events) + 1)
            shorter = Plain(*service.log()[0][1:])
            for event in events[:at]:
                shorter.go(event)
            if shorter.reason(wrong):
                before = everything(service)
                many = (*events[:at], wrong, *events[at:])
                for keep in ({}, {'keep': False}):
                    self.assertEqual(refused(service.do_all, *many, **keep), (wrong, shorter.reason(wrong)))
                    self.assertEqual(everything(service), before)
                with self.assertRaises(InvalidEvent) as found:
                    service.do_all(*many, keep=True)
                self.assertEqual(found.exception.event, wrong)
                self.assertEqual(everything(service), shorter.everything())
                self.assertEqual(service.counts(), (5, 5))

    def test_none(self):
        service = Service(OLD)
        self.assertEqual((service.do_all(), service.do_all(keep=True), len(service)), (0, 0, 0))
        self.assertEqual(service.counts(), (2, 2))

    def test_full(self):
        service = Service(OLD)
        self.assertEqual(refused(service.do_all, *[('read', 'a')] * 61), (('read', 'a'), 'full'))
        self.assertEqual(len(service), 0)
        self.assertEqual(service.do_all(*[('read', 'a')] * 60), 60)
        self.assertEqual(refused(service.do_all, ('read', 'a'), keep=True), (('read', 'a'), 'full'))
        service = Service(OLD)
        self.assertEqual(service.do_all(('read', 'b')), 1)
        with self.assertRaises(InvalidEvent):
            service.do_all(*[('read', 'a')] * 61, keep=True)
        self.assertEqual((len(service), service.log()[1:3]), (60, (('read', 'b'), ('read', 'a'))))


class CountsTest(unittest.TestCase):
    def test_what_is_counted(self):
        service, many = Service(OLD), 0
        counted = (lambda: service.read('a'), lambda: service('b'), lambda: service.plan(NEW),
                   lambda: service.force(1, 1), lambda: service.replace(0), lambda: service.forget(1),
                   lambda: service.set_quiet(('x',)),
                   lambda: service.go(('read', 'a')), lambda: service.undo(), lambda: service.do_all(*EVENTS[:2]),
                   lambda: service.do_all(), lambda: service.do_all(('read', 'b'), keep=True))
        refusing = (lambda: service.read(None), lambda: service('zz'), lambda: service.plan(LATE),
                    lambda: service.force(9, 9), lambda: service.replace(9), lambda: service.forget(9),
                    lambda: service.set_quiet(['x']), lambda: service.go(None),
                    lambda: service.do_all(('read', 'b'), None),
                    lambda: service.do_all(('read', 'b'), None, keep=True))
        for call in counted:
            call()
            many += 1
            self.assertEqual(service.counts(), (many, many))
        for call in refusing:
            self.assertRaises(InvalidEvent, call)
            many += 1
            self.assertEqual(service.counts(), (many, many))

    def test_what_is_not_counted(self):
        service = Service(OLD)
        service.do_all(*EVENTS)
        before = everything(service)
        for call in (lambda: service.tried(('read', 'a')), lambda: service.wrongs(), lambda: service.table(),
                     lambda: service.log(), lambda: str(service), lambda: service[0], lambda: len(service),
                     lambda: (0, 0) in service, lambda: service == service, lambda: service.soonest_reading(0),
                     lambda: service.latest_wait(0), lambda: service.heal_time(), lambda: service.harm_now(0),
                     lambda: service.quiet_needed(0), lambda: service.quiet_needed(1, most=2), lambda: service.counts(),
                     lambda: service.versions, lambda: service.ready, lambda: service.memory):
            call()
            self.assertEqual(service.counts(), (1, 1))
        for call in (lambda: service.tried(None), lambda: service[9]):
            self.assertRaises((InvalidEvent, InvalidKnowledge), call)
            self.assertEqual(service.counts(), (1, 1))
        self.assertEqual(everything(service), before)


class WrongsTest(unittest.TestCase):
    def test_the_example(self):
        service = Service(OLD)
        self.assertEqual([service.read('a'), service.plan(NEW), service.force(1, 2), service.read('b'), service.is_true,
                          service.wrongs()], ['', '', '', '', True, (1,)])
        self.assertEqual(service.table(), [' 0   2 1 ready', ' 1   3 2 live'])

    def test_many_runs(self):
        counts = {}
        for service, events, plain, _ in runs(4):
            service.do_all(*events)
            self.assertEqual(service.wrongs(), tuple(plain.wrong))
            counts[len(plain.wrong)] = counts.get(len(plain.wrong), 0) + 1
        self.assertGreater(len(counts), 5)

    def test_versions_that_were_planned_late_replaced_and_forgotten(self):
        service = Service(OLD)
        service.do_all(('read', 'b'), ('read', 'a'), ('plan', FIRST), ('force', 1, 1), ('read', 'a'), ('read', 'b'))
        # FIRST would have said y from the second letter on.
        self.assertEqual(service.wrongs(), (2, 3))
        service.do_all(('replace', 0), ('read', 'a'), ('forget', 1), ('read', 'b'))
        self.assertEqual(service.wrongs(), (2, 3))
        service.do_all(('plan', LAST), ('force', 1, 1), ('read', 'a'), ('plan', NEW), ('force', 1, 0), ('forget', 0))
        # After b, LAST would have been in state 1: so nothing was wrong but the state that was forced.
        self.assertEqual((service.wrongs(), service.versions, service.live), ((2, 3), (LAST, NEW), 0))
        service.do_all(('force', 0, 1), ('read', 'a'))
        self.assertEqual(service.wrongs(), (2, 3, 7))

    def test_the_words_that_were_quiet_then(self):
        service = Service(FIRST)
        service.do_all(('read', 'a'), ('force', 0, 2), ('quiet', ('y',)), ('read', 'a'), ('quiet', ('x',)),
                       ('read', 'a'), ('quiet', ('x', 'y')), ('read', 'b'))
        self.assertEqual((service.wrongs(), service.is_true), ((1, 2), True))
        service.do_all(('force', 0, 1), ('quiet', ()), ('force', 0, 2), ('read', 'b'), ('quiet', ('x', 'y')))
        self.assertEqual(service.wrongs(), (1, 2, 4))

    def test_a_word_that_is_missing_is_wrong(self):
        service = Service(FIRST)
        service.do_all(('read', 'a'), ('force', 0, 0), ('read', 'b'), ('read', 'b'))
        self.assertEqual((service.tried(('read', 'a')), service.wrongs()), (('y',), (1, 2)))
        self.assertEqual(service.undo(), ('read', 'b'))
        self.assertEqual(service.wrongs(), (1,))

    def test_columns_of_the_table(self):
        service = Service(THREE)
        self.assertEqual(service.table(), [' 0   4 0 live'])
        for states, column in ((12, ' 12'), (120, '120'), (1000, '1000')):
            many = (('a',), tuple((((state + 1) % states, 'x' if state else ''),) for state in range(states)))
            service = Service(many)
            service.read('a')
            service.plan((('a',), (((0, 'x'),),)))
            self.assertEqual(service.table(), [f' 0 {column} 1 live', ' 1   1 0 ready'])
        service = Service(OLD)
        service.do_all(('read', 'a'), ('plan', FIRST), ('plan', NEW), ('force', 2, 0))
        self.assertEqual(service.table(), [' 0   2 1 ready', ' 1   3 1,2 -', ' 2   3 1,2 wrong'])


class AdviceTest(unittest.TestCase):
    def test_the_example(self):
        service = Service(OLD)
        service.do_all(('read', 'a'), ('plan', NEW))
        self.assertEqual([service.soonest_reading(1), service.latest_wait(1), service.quiet_needed(1),
                          service.heal_time()], [('b',), None, (('no', 'yes'),), 0])

    def told(self, service, version):
        return (service.soonest_reading(version), service.latest_wait(version), service.harm_now(version),
                [service.quiet_needed(version), *[service.quiet_needed(version, most=most) for most in (0, 1, 2)]],
                service.heal_time())

    def test_many_runs(self):
        found = set()
        for service, events, _, _ in runs(2, 40):
            plain = Plain(*service.log()[0][1:])
            for event in events:
                service.go(event)
                plain.go(event)
                found |= self.compared(service, plain)
        self.assertGreater(len(found), 8)
        self.assertLessEqual({None, 0, 1}, {one[0] for one in found})
        self.assertLessEqual({None, 0, 1}, {one[1] for one in found})
        self.assertLessEqual({None, 0, 1}, {one[2] for one in found})

    def compared(self, service, plain):
        """Compare the advice of a service with a plain one; return some of what was told."""
        before, counts, found = everything(service), service.counts(), set()
        for version, machine in enumerate(plain.versions):
            told = self.told(service, version)
            self.assertEqual(told, plain.advice(version))
            self.assertTrue(all(map(is_new_kind, (*told[:3], *told[3], told[4]))))
            states = service[version]
            self.assertEqual(told[:3], tuple(call(machine, states, quiet=service.quiet)
                                             for call in (soonest, latest, least_harm)))
            self.assertEqual(told[3][2], least_quiet(machine, states, most=1))
            live = service.versions[service.live]
            self.assertEqual(told[4], heals_within(live, service.live_state, service[service.live],
                                                   quiet=service.quiet))
            found.add((told[1], told[2] and told[2][0], told[4]))
        self.assertEqual((everything(service), service.counts()), (before, counts))
        return found

    def test_the_present_quiet_words(self):
        service = Service(OLD)
        service.do_all(('read', 'a'), ('plan', NEW), ('quiet', YESNO))
        self.assertEqual([service.soonest_reading(1), service.latest_wait(1), service.harm_now(1),
                          service.quiet_needed(1)], [(), 0, (0, 0), (YESNO,)])
        service.undo()
        self.assertEqual([service.soonest_reading(1), service.latest_wait(1), service.harm_now(1),
                          service.quiet_needed(1, most=1)], [('b',), None, (1, 0), ((),)])

    def test_heal_time_of_the_live_version(self):
        service = Service(LATE)
        service.plan(LATE)
        service.force(1, 1)
        self.assertEqual((service.heal_time(), service.is_true), (2, False))
        service.read('a')
        self.assertEqual(service.heal_time(), 1)
        service.set_quiet(('x', 'y'))
        self.assertEqual((service.heal_time(), service.is_true), (0, True))
        service = Service(FIRST)
        service.do_all(('read', 'a'), ('force', 0, 2))
        self.assertIsNone(service.heal_time())

    def test_values_that_are_no_index(self):
        service = Service(OLD)
        service.plan(NEW)
        before = everything(service)
        for thing in (*ODD, 2, 3, '', '0', (), (0,), service, 10 ** 80):
            for call in (service.soonest_reading, service.latest_wait, service.harm_now, service.quiet_needed):
                for _ in range(2):
                    with self.assertRaises(InvalidKnowledge) as found:
                        call(thing)
                    self.assertEqual(found.exception.word, 'version')
                    self.assertIs(found.exception.at, thing)
            self.assertEqual(caught(service.quiet_needed, 2, most=5), (InvalidKnowledge, 'version', 2))
        self.assertEqual((everything(service), service.counts()), (before, (1, 1)))

    def test_by_name(self):
        service = Service(OLD)
        service.do_all(('read', 'a'), ('plan', NEW))
        self.assertEqual(service.soonest_reading(version=1), ('b',))
        self.assertIsNone(service.latest_wait(version=1))
        self.assertEqual(service.harm_now(version=1), (1, 0))
        self.assertEqual(service.quiet_needed(most=1, version=1), ((),))
        self.assertRaises(TypeError, service.quiet_needed, 1, 1)
        self.assertRaises(TypeError, service.heal_time, 0)

    def test_states_that_are_none_are_never_met(self):
        # A live state is always one of its version: so heal_time raises no InvalidState.
        for service, events, plain, _ in runs(1):
            for event in events:
                service.go(event)
                self.assertIsNot((caught(service.heal_time) or (None,))[0], InvalidState)


class ConsequencesTest(unittest.TestCase):
    def test_without_force(self):
        for seed, (machine, quiet, machines) in enumerate(service_starts()):
            for part in range(4):
                service = Service(machine, quiet=quiet)
                for event in events_for(machines, 1000 * seed + part, 90, force=False):
                    memory = service.memory
                    if caught(service.tried, event) is None:
                        service.go(event)
                        self.assertTrue(service.memory <= memory or event[0] == 'plan')
                    self.assertIs(service.is_true, True)
                    self.assertEqual(service.wrongs(), ())

    def test_the_true_standing_is_always_known(self):
        for service, events, _, _ in runs():
            letters = []
            for event in events:
                service.go(event)
                letters += [event[1]] if event[0] == 'read' else []
                standing = tuple(plain_run(machine, letters)[0] for machine in service.versions)
                self.assertIs(standing in service, True)

    def test_what_is_true_stays_so(self):
        found = 0
        for service, events, _, _ in runs(4):
            was_true, wrong = True, ()
            for event in events:
                service.go(event)
                if was_true and event[0] != 'force':
                    self.assertTrue(service.is_true)
                    self.assertEqual(service.wrongs(), wrong)
                    found += wrong != ()
                was_true, wrong = service.is_true, service.wrongs()
        self.assertGreater(found, 20)

    def test_the_same_state_after_other_letters(self):
        # The same is possible and said, whatever was read before.
        together = {}
        for seed, (machine, quiet, machines) in enumerate(service_starts()):
            if seed % 3:
                continue
            for part in range(6):
                service = Service(machine, quiet=quiet)
                for event in events_for(machines, 7000 + 50 * seed + part, 25):
                    if caught(service.tried, event) is None:
                        service.go(event)
                        key = (service.versions, service.knowledge.standings, service.live, service.live_state,
                               service.quiet)
                        together.setdefault(key, []).append(copy.deepcopy(service))
        chance, compared = random.Random(1), 0
        for key, services in together.items():
            one, other = chance.choice(services), chance.choice(services)
            if one.log() != other.log():
                compared += 1
                machines = [machine for machine in (OLD, NEW, FIRST, LAST) if machine[0] == key[0][0][0]] or key[0]
                for event in events_for(list(machines), compared, 12):
                    words = [caught(service.tried, event) or service.tried(event) for service in (one, other)]
                    self.assertEqual(*words)
                    if words[0][0] is not InvalidEvent:
                        one.go(event)
                        other.go(event)
        self.assertGreater(compared, 30)

    def test_planning_early_is_better(self):
        # What is planned early is known better.
        for old, new in itertools.product((OLD, NEW, FIRST, LAST), repeat=2):
            for letters in itertools.product('ab', repeat=3):
                early, late = Service(old), Service(old)
                early.do_all(('plan', new), *[('read', letter) for letter in letters])
                late.do_all(*[('read', letter) for letter in letters], ('plan', new))
                self.assertLessEqual(set(early.knowledge.standings), set(late.knowledge.standings))
                self.assertLessEqual(set(late.ready), set(early.ready))
                if (old, new) == (OLD, NEW) and 'b' in letters:
                    self.assertEqual((early.memory, early.ready, late.memory, late.ready), (1, (0, 1), 2, (0,)))

    def test_forgetting_and_planning_again(self):
        # [8], N4: what is ready without the forgotten version is also ready with it.
        found = set()
        for _, events, _, machines in runs(2, 30):
            service = Service(events[0][1] if events[0][0] == 'plan' else machines[0])
            for event in events:
                if caught(service.tried, event) is None:
                    service.go(event)
                    if len(service.versions) == 2:
                        for machine in machines:
                            whole = service.knowledge.extended(machine)
                            less = service.knowledge.forgotten(1 - service.live).extended(machine)
                            ready = [plain_ready_last(one, service.quiet) for one in (less, whole)]
                            self.assertTrue(ready[1] or not ready[0])
                            found.add(tuple(ready))
        self.assertEqual(found, {(False, False), (False, True), (True, True)})


def plain_ready_last(k, quiet):
    """Return whether the last version is ready."""
    plain = Plain(k.versions[0])
    plain.versions, plain.known, plain.quiet = k.versions, set(k.standings), quiet
    return len(k.versions) - 1 in plain.ready()


if __name__ == '__main__':
    unittest.main()
