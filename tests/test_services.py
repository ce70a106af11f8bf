"""[61] to [66]: Service, its events, its properties, and what its signs mean."""

import copy
import unittest

from alwaysnew.errors import InvalidEvent, InvalidKnowledge, InvalidPaper
from alwaysnew.knowledge import Knowledge
from alwaysnew.services import Service
from tests.examples import (ALL, DEEP, FIRST, LAST, LATE, LONE, MACHINES, NEW, ODD, OLD, SIXTY, THREE, caught,
                            is_new_kind)
from tests.harmexamples import WIDE
from tests.serviceexamples import Plain, events_for, everything, is_event, refused, service_starts

YESNO = ('no', 'yes')
# No values are events by kind, with one of these kinds.
SHAPELESS = (('read', ''), ('read', 'A'), ('read', 1), ('read', ('a',)), ('read',), ('read', 'a', 'b'), ['read', 'a'],
             ('plan', None), ('plan', OLD, OLD), ('plan', (OLD,)), ('plan', OLD[1]), ('plan', (('b', 'a'), OLD[1])),
             ('plan', (OLD[0], ())), ('plan', (('a',), (((1, ''),),))), ('plan', (('a',), (((False, ''),),))),
             ('replace', -1), ('replace', True), ('replace', '0'), ('replace', 0, 0), ('replace', None), ('replace',),
             ('force', 0), ('force', 0, 0, 0), ('force', True, 0), ('force', 0, False), ('force', 0, -1),
             ('force', -1, 0), ('force', '0', 0), ('force', (0, 0)), ('quiet', ('b', 'a')), ('quiet', ('a', 'a')),
             ('quiet', ['a']), ('quiet', 'a'), ('quiet', ('A',)), ('quiet', ('',)), ('quiet',), ('quiet', (), ()),
             ('forget', -1), ('forget', False), ('forget', 'a'), ('forget', 0, 1), ('Read', 'a'), ('write', 'a'),
             ('read', 'a', 'b', 'c'), ('plan', OLD, 0, 0), ('quiet', (), (), ()), ('forget', 0, 0, 0),
             ('service', OLD, ()), ('undo',), ('', 'a'), (True, 'a'), (1, 'a'), (('read',), 'a'), (['read'], 'a'),
             'read', 'read a', {}, OLD)


def planned(*machines, quiet=()):
    """Return a service of OLD, that read one a, with these machines as further versions."""
    service = Service(OLD, quiet=quiet)
    service.read('a')
    for machine in machines:
        service.plan(machine)
    return service


class ServiceTest(unittest.TestCase):
    def test_the_examples(self):
        service = Service(OLD)
        self.assertEqual([service.read('a'), service.plan(NEW), service.live_state, service.memory, service.ready],
                         ['', '', 1, 2, (0,)])
        service = Service(OLD)
        self.assertEqual([service.read('a'), service.plan(NEW), service.read('b'), service.replace(1), service.live,
                          service.live_state], ['', '', '', '', 1, 2])

    def test_a_new_service(self):
        for machine in MACHINES:
            for quiet in ((), ('x',), ('never', 'yes')):
                service = Service(machine, quiet=quiet)
                self.assertEqual(everything(service), Plain(machine, quiet).everything())
                self.assertEqual((service.versions, service.live, service.live_state, service.quiet, service.is_true,
                                  service.ready, service.memory, len(service), service.counts()),
                                 ((machine,), 0, 0, quiet, True, (0,), 1, 0, (0, 0)))
                self.assertTrue(service.knowledge == Knowledge.begun(machine))
        self.assertEqual((Service.MOST, Service.VERSIONS), (60, 3))
        self.assertEqual((type(Service.MOST), type(Service.VERSIONS)), (int, int))
        self.assertEqual((Service(OLD).MOST, Service(OLD).VERSIONS), (60, 3))
        self.assertEqual(Service(quiet=('a',), machine=NEW).quiet, ('a',))
        self.assertRaises(TypeError, Service, OLD, ())
        self.assertRaises(TypeError, Service)

    def test_values_that_are_no_machines(self):
        for thing in (*ODD, 0, '', (), OLD[0], (OLD,), list(OLD), Service(OLD), Knowledge.begun(OLD)):
            for quiet in ((), None, ('b', 'a')):
                self.assertEqual(caught(Service, thing, quiet=quiet), (InvalidPaper, 'shape', -1))
        self.assertEqual(caught(Service, (('b', 'a'), OLD[1])), (InvalidPaper, 'letters', -1))
        self.assertEqual(caught(Service, (('a',), ())), (InvalidPaper, 'rows', -1))
        self.assertEqual(caught(Service, (OLD[0], (((0, ''),),)), quiet=7), (InvalidPaper, 'row', 0))
        self.assertEqual(caught(Service, (('a',), (((1, ''),),)), quiet='a'), (InvalidPaper, 'next', (0, 0)))

    def test_values_that_are_no_sets_of_names(self):
        for thing in (*[one for one in ODD if one != ()], 0, '', 'a', [], ('a', 'a'), ('b', 'a'), ('a', ''), ('A',),
                      OLD):
            self.assertEqual(caught(Service, OLD, quiet=thing), (InvalidEvent, ('quiet', thing), 'shape'))

    def test_properties_cannot_be_set(self):
        service = Service(OLD)
        for name in ('versions', 'knowledge', 'live', 'live_state', 'quiet', 'is_true', 'ready', 'memory'):
            self.assertRaises(AttributeError, setattr, service, name, None)

    def test_many_events_and_what_is_told_after_each(self):
        reasons = {}
        for seed, (machine, quiet, machines) in enumerate(service_starts()):
            for part in range(3):
                service, plain = Service(machine, quiet=quiet), Plain(machine, quiet)
                for event in events_for(machines, 10 * seed + part, 70):
                    reason = plain.reason(event)
                    if reason is None:
                        self.assertEqual(service.go(event), plain.go(event))
                    else:
                        self.assertEqual(refused(service.go, event), (event, reason))
                    self.assertEqual(everything(service), plain.everything())
                    reasons[event[0], reason] = reasons.get((event[0], reason), 0) + 1
        self.assertEqual(len(reasons), 17)
        self.assertGreater(min(many for (kind, reason), many in reasons.items() if reason != 'loud'), 5)

    def test_what_is_told_is_new_and_of_its_kind(self):
        service = planned(NEW, LAST)
        for told in (service.versions, service.ready, service.quiet, service[0], service.log(), service.wrongs(),
                     service.counts(), service.tried(('read', 'a'))):
            self.assertTrue(is_new_kind(told))
        self.assertIs(type(service.knowledge), Knowledge)
        self.assertIs(type(service.is_true), bool)
        for told in (service.live, service.live_state, service.memory, len(service)):
            self.assertIs(type(told), int)
        table = service.table()
        self.assertIs(type(table), list)
        table.append('x')
        self.assertEqual(len(service.table()), 3)

    def test_each_event_by_each_of_its_ways(self):
        ways = {
            'read': [lambda s: s.read('b'), lambda s: s.read(letter='b'), lambda s: s('b'), lambda s: s(letter='b'),
                     lambda s: s.go(('read', 'b')), lambda s: s.go(event=('read', 'b'))],
            'plan': [lambda s: s.plan(LAST), lambda s: s.plan(machine=LAST), lambda s: s.go(('plan', LAST))],
            'force': [lambda s: s.force(1, 2), lambda s: s.force(version=1, target=2),
                      lambda s: s.force(target=2, version=1), lambda s: s.go(('force', 1, 2))],
            'quiet': [lambda s: s.set_quiet(YESNO), lambda s: s.set_quiet(words=YESNO),
                      lambda s: s.go(('quiet', YESNO))],
            'forget': [lambda s: s.forget(1), lambda s: s.forget(version=1), lambda s: s.go(('forget', 1))],
        }
        for kind, calls in ways.items():
            plain = Plain(OLD)
            for event in (('read', 'a'), ('plan', NEW), {'read': ('read', 'b'), 'plan': ('plan', LAST), 'force':
                          ('force', 1, 2), 'quiet': ('quiet', YESNO), 'forget': ('forget', 1)}[kind]):
                plain.go(event)
            for call in calls:
                service = planned(NEW)
                self.assertEqual(call(service), '')
                self.assertEqual(everything(service), plain.everything())
                self.assertEqual(service.counts(), (3, 3))
        for call in (lambda s: s.replace(1), lambda s: s.replace(version=1), lambda s: s.go(('replace', 1))):
            service = planned(NEW)
            service.read('b')
            self.assertEqual((call(service), service.live, service.live_state), ('', 1, 2))

    def test_what_is_said(self):
        service = Service(FIRST, quiet=('y',))
        self.assertEqual([service.read('a'), service.read('b'), service('a')], ['', 'x', 'x'])
        service = Service(FIRST, quiet=('y',))
        self.assertEqual([service.read('b'), service.read('a'), service.set_quiet(()), service.read('a')],
                         ['', '', '', 'y'])

    def test_signs(self):
        service = planned(NEW)
        self.assertEqual([service[0], service[1], len(service)], [(1,), (1, 2), 2])
        for thing in ((1, 1), (1, 2)):
            self.assertIs(thing in service, True)
        for thing in (*ODD, 0, 1, '', (), (1,), (0, 0), (1, 0), (True, 1), (1, True), [1, 1], (1, 1, 1), ('1', '1'),
                      service, service.knowledge, OLD):
            self.assertIs(thing in service, False)
        for thing in (*ODD, 2, 3, '', '0', (), (0,), service, OLD, 10 ** 80):
            for _ in range(2):
                with self.assertRaises(InvalidKnowledge) as found:
                    service[thing]
                self.assertEqual(found.exception.word, 'version')
                self.assertIs(found.exception.at, thing)
        self.assertEqual((len(service), service.counts()), (2, (2, 2)))
        self.assertRaises(TypeError, list, service)

    def test_equal_services(self):
        one, other = planned(NEW), planned(NEW)
        self.assertTrue(one == other and not one != other)
        one.undo()
        one.plan(NEW)
        self.assertTrue(one == other and one.counts() != other.counts())
        other.read('a')
        self.assertFalse(one == other)
        other.undo()
        self.assertTrue(one == other)
        for service in (Service(OLD), Service(OLD, quiet=('a',)), Service(NEW), planned(LAST)):
            self.assertFalse(service == one or one == service)
        self.assertFalse(Service(OLD) == Service(OLD, quiet=('a',)))
        # All that can be seen is the same, but not the log.
        one.set_quiet(())
        self.assertFalse(one == other)
        for thing in (*ODD, 0, '', one.log(), str(one), one.knowledge, OLD, ()):
            self.assertIs(one == thing, False)
            self.assertIs(thing == one, False)

    def test_arguments_are_kept_as_they_are(self):
        words, machine = ('no', 'yes'), copy.deepcopy(NEW)
        service = Service(machine, quiet=words)
        self.assertEqual((service.versions, service.quiet), ((NEW,), ('no', 'yes')))
        service.plan(OLD)
        service.plan(NEW)
        self.assertEqual(service.versions, (NEW, OLD, NEW))
        self.assertEqual((machine, words), (NEW, ('no', 'yes')))


class ReasonsTest(unittest.TestCase):
    def refuses(self, service, event, reason):
        before, counts = everything(service), service.counts()
        self.assertEqual(refused(service.tried, event), (event, reason))
        self.assertEqual(service.counts(), counts)
        self.assertEqual(refused(service.go, event), (event, reason))
        self.assertEqual(everything(service), before)
        self.assertEqual(service.counts(), (counts[0] + 2, counts[1] + 2))

    def test_the_error_keeps_the_very_event(self):
        service = Service(OLD)
        for event in (['read', 'a'], ('read', 'zz'), DEEP, ('plan', LATE), service):
            with self.assertRaises(InvalidEvent) as found:
                service.go(event)
            self.assertIs(found.exception.event, event)
            with self.assertRaises(InvalidEvent) as found:
                service.do_all(('read', 'a'), event)
            self.assertIs(found.exception.event, event)
        letter = ['a']
        with self.assertRaises(InvalidEvent) as found:
            service.read(letter)
        self.assertIs(found.exception.event[1], letter)

    def test_shape(self):
        for service in (Service(OLD), planned(NEW, LAST)):
            for event in (*ODD, 0, '', (), *SHAPELESS):
                self.assertFalse(is_event(event))
                self.refuses(service, event, 'shape')

    def test_shape_by_the_methods(self):
        for thing in (*ODD, '', (), [], 'A', Service(OLD)):
            for name, args in (('read', (thing,)), ('plan', (thing,)), ('replace', (thing,)), ('force', (thing, 0)),
                               ('force', (0, thing)), ('forget', (thing,)), ('set_quiet', (thing,))):
                kind = 'quiet' if name == 'set_quiet' else name
                service = Service(OLD)
                if not is_event((kind, *args)):
                    for _ in range(2):
                        with self.assertRaises(InvalidEvent) as found:
                            getattr(service, name)(*args)
                        self.assertEqual(found.exception.reason, 'shape')
                        self.assertEqual(type(found.exception.event), tuple)
                        self.assertEqual((found.exception.event[0], len(found.exception.event)), (kind, len(args) + 1))
                        self.assertTrue(all(map(lambda one, other: one is other, found.exception.event[1:], args)))
                    self.assertEqual((len(service), service.counts()), (0, (2, 2)))
        for thing in (*ODD, '', 1, (), [], OLD):
            with self.assertRaises(InvalidEvent) as found:
                Service(OLD)(thing)
            self.assertEqual((found.exception.event[0], found.exception.reason), ('read', 'shape'))

    def test_full(self):
        service = Service(OLD)
        for _ in range(58):
            service.read('a')
        service.plan(NEW)
        service.read('b')
        self.assertEqual((len(service), service.ready), (60, (0, 1)))
        for event in (('read', 'a'), ('read', 'zz'), ('plan', NEW), ('plan', LATE), ('replace', 1), ('replace', 9),
                      ('force', 1, 1), ('force', 0, 99), ('quiet', ('x',)), ('forget', 1), ('forget', 0)):
            self.refuses(service, event, 'full')
        for event in (*ODD, ('read', 'A'), ('force', 0)):
            self.refuses(service, event, 'shape')
        self.assertEqual(service.undo(), ('read', 'b'))
        self.assertEqual(service.go(('forget', 1)), '')
        self.refuses(service, ('read', 'a'), 'full')

    def test_letter(self):
        for letter in ('c', 'zz', 'read', 'ab', 'no'):
            self.refuses(Service(OLD), ('read', letter), 'letter')
        self.refuses(Service(THREE), ('read', 'b'), 'letter')
        self.refuses(Service(THREE), ('read', 'abcdefgh'), 'letter')

    def test_letters_and_many(self):
        service = planned(NEW, LAST)
        for machine in (LATE, ALL, LONE, THREE, WIDE):
            self.refuses(Service(OLD), ('plan', machine), 'letters')
            self.refuses(service, ('plan', machine), 'letters')
        for machine in (OLD, NEW, FIRST):
            self.refuses(service, ('plan', machine), 'many')
        service.forget(1)
        self.assertEqual(service.plan(FIRST), '')
        self.refuses(service, ('plan', OLD), 'many')

    def test_version(self):
        for kind, rest in (('replace', ()), ('force', (0,)), ('force', (99,)), ('forget', ())):
            for version in (2, 3, 60, SIXTY, 10 ** 80):
                self.refuses(planned(NEW), (kind, version, *rest), 'version')
            self.refuses(Service(OLD), (kind, 1, *rest), 'version')

    def test_live_and_ready(self):
        service = planned(NEW)
        self.refuses(service, ('replace', 0), 'live')
        self.refuses(service, ('replace', 1), 'ready')
        self.refuses(service, ('forget', 0), 'live')
        service.force(1, 0)
        self.assertEqual((service.live, service.is_true, service.table()[1]), (1, False, ' 1   3 1,2 wrong'))
        # The live state is not true, but there is no true one.
        self.refuses(service, ('replace', 1), 'ready')
        self.refuses(service, ('forget', 1), 'live')
        service.read('b')
        # Now it is set right.
        self.assertEqual((service.live_state, service.is_true), (2, True))
        self.refuses(service, ('replace', 1), 'live')

    def test_set_right_by_itself(self):
        service = Service(FIRST)
        service.read('b')
        service.force(0, 1)
        self.assertEqual((service.is_true, service.ready, service.table()), (False, (0,), [' 0   3 2 wrong']))
        self.assertEqual((service.replace(0), service.live, service.live_state, service.is_true), ('', 0, 2, True))
        self.refuses(service, ('replace', 0), 'live')

    def test_the_least_true_state(self):
        service = Service(OLD)
        service.plan(NEW)
        service.set_quiet(YESNO)
        service.read('b')
        self.assertEqual((service.replace(1), service.live_state, service[1]), ('', 0, (2,)))
        service = Service(LAST)
        service.plan(OLD)
        service.read('b')
        self.assertEqual((service.replace(1), service.live_state), ('', 0))

    def test_state(self):
        service = planned(NEW)
        for version, target in ((0, 2), (1, 3), (0, SIXTY), (1, 10 ** 80)):
            self.refuses(service, ('force', version, target), 'state')
        for version, target in ((0, 0), (0, 1), (1, 0), (1, 1), (1, 2)):
            self.assertEqual((service.force(version, target), service.live, service.live_state), ('', version, target))
        # A state that is not reached.
        service = Service((('a',), (((0, ''),), ((1, 'x'),))))
        self.assertEqual((service.force(0, 1), service.is_true, service.read('a')), ('', False, 'x'))

    def test_loud(self):
        service = Service(OLD, quiet=YESNO)
        service.plan(NEW)
        service.replace(1)
        self.assertEqual((service.live, service.live_state, service.is_true), (1, 0, True))
        for words in ((), ('no',), ('yes',), ('maybe',)):
            self.refuses(service, ('quiet', words), 'loud')
        for words in (YESNO, ('maybe', 'no', 'yes')):
            self.assertEqual((service.set_quiet(words), service.quiet), ('', words))
        # With b it is told which state is the true one: then nothing is too loud.
        service.read('b')
        self.assertEqual((service.set_quiet(()), service.is_true), ('', True))
        # If the live state is not true, no words are too loud.
        for words in (YESNO, ('no',)):
            service = planned(NEW)
            service.force(1, 0)
            self.assertEqual((service.set_quiet(words), service.is_true), ('', words == YESNO))
        self.assertEqual((service.set_quiet(()), service.quiet), ('', ()))

    def test_live_is_not_forgotten(self):
        service = planned(NEW, LAST)
        service.read('b')
        self.refuses(service, ('forget', 0), 'live')
        service.replace(2)
        self.refuses(service, ('forget', 2), 'live')
        # The indices of later versions are one less then.
        self.assertEqual((service.forget(0), service.live, service.versions), ('', 1, (NEW, LAST)))
        self.refuses(service, ('forget', 2), 'version')
        self.assertEqual((service.forget(0), service.live, service.versions), ('', 0, (LAST,)))
        self.refuses(service, ('forget', 0), 'live')
        service.plan(OLD)
        service.plan(NEW)
        self.assertEqual((service.forget(2), service.live, service.versions), ('', 0, (LAST, OLD)))


if __name__ == '__main__':
    unittest.main()
