"""[72] and what [71] says of logs: Service.log, str, is_log and replayed; written, read and replayed again."""

import unittest

from alwaysnew.errors import InvalidEvent, InvalidPaper
from alwaysnew.eventreadings import read_log
from alwaysnew.eventtexts import event_line, log_lines
from alwaysnew.knowledge import Knowledge
from alwaysnew.replaying import is_log, replayed
from alwaysnew.services import Service
from tests.examples import DEEP, LATE, MACHINES, NEW, ODD, OLD, SIXTY, caught, changed_texts, is_new_kind
from tests.serviceexamples import Plain, events_for, everything, is_event, is_machine, is_names, refused, service_starts
from tests.test_services import SHAPELESS

BEGUN = ('service', OLD, ())
EVENTS = (('read', 'a'), ('plan', NEW), ('read', 'b'), ('replace', 1), ('force', 0, 1), ('quiet', ('no', 'yes')),
          ('forget', 1))


def run(machine, quiet, machines, seed, many=40):
    """Return a service after many events."""
    service = Service(machine, quiet=quiet)
    for event in events_for(machines, seed, many):
        if caught(service.tried, event) is None:
            service.go(event)
    return service


def plain_is_log(thing):
    """Return whether a value is a log, by the words of [72]."""
    if type(thing) is not tuple or not thing or type(thing[0]) is not tuple or len(thing[0]) != 3:
        return False
    word, machine, quiet = thing[0]
    return (type(word) is str and word == 'service' and is_machine(machine) and is_names(quiet)
            and all(map(is_event, thing[1:])))


class LogTest(unittest.TestCase):
    def test_the_example(self):
        self.assertEqual([is_log((BEGUN, ('forget', 7))), str(replayed((BEGUN, ('read', 'a'))))], [True, 'read a'])

    def test_log_and_str(self):
        service = Service(OLD)
        self.assertEqual((service.log(), str(service)), ((BEGUN,), '-'))
        for at, event in enumerate(EVENTS):
            service.go(event)
            self.assertEqual(service.log(), (BEGUN, *EVENTS[:at + 1]))
        self.assertTrue(is_new_kind(service.log()))
        self.assertEqual(str(service), 'read a / plan a,b 1:-,2:no 0:-,2:yes 2:-,2:- / read b / replace 1 / '
                                       'force 0 1 / quiet no,yes / forget 1')
        service.undo()
        self.assertEqual(service.log(), (BEGUN, *EVENTS[:-1]))
        self.assertEqual(Service(LATE, quiet=('x', 'y')).log(), (('service', LATE, ('x', 'y')),))
        self.assertEqual(str(Service(LATE, quiet=('x', 'y'))), '-')

    def test_str_joins_the_lines(self):
        for seed, (machine, quiet, machines) in enumerate(service_starts()):
            service = run(machine, quiet, machines, seed)
            lines = [event_line(event) for event in service.log()[1:]]
            self.assertEqual(str(service), ' / '.join(lines) or '-')

    def test_is_log(self):
        for machine in MACHINES:
            for quiet in ((), ('x',), ('never', 'yes')):
                self.assertIs(is_log((('service', machine, quiet),)), True)
        for event in (*EVENTS, ('replace', SIXTY), ('force', 10 ** 80, SIXTY), ('read', 'abcdefgh'), ('plan', LATE),
                      ('quiet', ())):
            self.assertIs(is_log((BEGUN, event)), True)
            self.assertIs(is_log(thing=(BEGUN, event, *EVENTS)), True)
        # Whether an event is possible is not looked at, nor how many there are.
        self.assertIs(is_log((BEGUN, *[('read', 'z')] * 100)), True)

    def test_values_that_are_no_logs(self):
        for thing in (*ODD, 0, '', (), BEGUN, [BEGUN], (list(BEGUN),), (BEGUN[:2],), ((*BEGUN, ()),), EVENTS,
                      (EVENTS[0], BEGUN), (BEGUN, BEGUN), (('Service', OLD, ()),), ((True, OLD, ()),),
                      (('service', None, ()),), (('service', (('b', 'a'), OLD[1]), ()),), (('service', OLD, None),),
                      (('service', (('a',), (((True, ''),),)), ()),), (('service', OLD, ('b', 'a')),),
                      (('service', OLD, ['a']),), (('service', OLD, ('a', 'a')),), (('service', OLD, ('A',)),),
                      Service(OLD), Knowledge.begun(OLD), (Service(OLD),), ((('service',), OLD, ()),),
                      'service - a 0:-'):
            self.assertIs(is_log(thing), False, thing)
        for event in (*ODD, *SHAPELESS, 0, '', (), BEGUN):
            self.assertIs(is_log((BEGUN, event)), False)
            self.assertIs(is_log((BEGUN, *EVENTS, event)), False)
            self.assertIs(is_log((BEGUN, event, *EVENTS)), False)

    def test_kinds_of_values(self):
        parts = (*ODD, 0, 1, '', 'a', 'b', (), ('a',), ('a', 'b'), 'read', 'plan', 'quiet', 'force', OLD, LATE, DEEP)
        for one in parts:
            for other in parts:
                for thing in (((one, other),), (BEGUN, (one, other)), (BEGUN, ('force', one, other)),
                              (('service', one, other),), ((one, OLD, other),), (BEGUN, (one,)), (one, other)):
                    self.assertIs(is_log(thing), plain_is_log(thing))


class ReplayedTest(unittest.TestCase):
    def test_an_equal_service(self):
        for seed, (machine, quiet, machines) in enumerate(service_starts()):
            for part in range(3):
                service = run(machine, quiet, machines, 10 * seed + part, 70)
                other = replayed(service.log())
                self.assertTrue(other == service and other is not service)
                self.assertEqual(everything(other), everything(service))
                self.assertEqual(other.counts(), (0, 0))
                if len(service):
                    self.assertEqual(other.undo(), service.log()[-1])
                    self.assertEqual((other.counts(), other == service), ((1, 1), False))
                # It does not change the one that it was made from.
                self.assertTrue(replayed(log=service.log()) == service)

    def test_written_and_read(self):
        for seed, (machine, quiet, machines) in enumerate(service_starts()):
            service = run(machine, quiet, machines, 500 + seed)
            lines = log_lines(service.log())
            self.assertEqual(read_log(lines), service.log())
            other = replayed(read_log(lines))
            self.assertTrue(other == service)
            self.assertEqual((str(other), other.counts()), (str(service), (0, 0)))

    def test_a_beginning_alone(self):
        service = replayed((('service', NEW, ('x',)),))
        self.assertTrue(service == Service(NEW, quiet=('x',)))
        self.assertEqual((service.counts(), str(service)), ((0, 0), '-'))

    def test_events_that_are_missing_repeated_or_others(self):
        found = set()
        for seed, (machine, quiet, machines) in enumerate(service_starts()):
            log = run(machine, quiet, machines, 900 + seed, 20).log()
            for at in range(1, len(log)):
                others = [event for event in events_for(machines, at, 3)]
                for changed in ((*log[:at], *log[at + 1:]), (*log[:at], log[at], *log[at:]),
                                *[(*log[:at], event, *log[at + 1:]) for event in others]):
                    plain, error = Plain(machine, quiet), None
                    for event in changed[1:]:
                        error = error or (plain.reason(event) and (event, plain.reason(event)))
                        if error is None:
                            plain.go(event)
                    self.assertEqual(refused(replayed, changed), error)
                    if error is None:
                        self.assertEqual(everything(replayed(changed)), plain.everything())
                    found.add(error and error[1])
        self.assertLessEqual({None, 'version', 'live', 'ready', 'many', 'state'}, found)

    def test_the_first_error(self):
        self.assertEqual(refused(replayed, (BEGUN, ('forget', 7))), (('forget', 7), 'version'))
        self.assertEqual(refused(replayed, (BEGUN, ('read', 'a'), ('read', 'c'), ('forget', 7))),
                         (('read', 'c'), 'letter'))
        self.assertEqual(refused(replayed, (BEGUN, *[('read', 'a')] * 61)), (('read', 'a'), 'full'))
        self.assertEqual(len(replayed((BEGUN, *[('read', 'a')] * 60))), 60)
        self.assertEqual(caught(replayed, (('service', (('a',), ()), ()), ('forget', 7))), (InvalidPaper, 'rows', -1))
        self.assertEqual(caught(replayed, (('service', OLD, ('b', 'a')), ('forget', 7))),
                         (InvalidEvent, ('quiet', ('b', 'a')), 'shape'))

    def test_texts_that_are_changed(self):
        # A text that can be read writes a log; it is replayed, or the first event that is not possible is refused.
        service = Service(OLD)
        service.do_all(('read', 'a'), ('plan', NEW), ('read', 'b'), ('replace', 1), ('quiet', ('no',)), ('forget', 0))
        text, counts = '\n'.join(log_lines(service.log())), {True: 0, False: 0}
        for changed in changed_texts(text, 7, 2500):
            error = caught(read_log, changed.split('\n'))
            if error is None:
                log = read_log(changed.split('\n'))
                self.assertTrue(is_log(log))
                self.assertEqual(log_lines(log), changed.split('\n'))
                wrong = refused(replayed, log)
                counts[wrong is None] += 1
                if wrong is None:
                    self.assertEqual(replayed(log).log(), log)
        self.assertGreater(min(counts.values()), 20)


if __name__ == '__main__':
    unittest.main()
