"""[8] and [71]: what is promised over the whole program, tried out with services that go on in all ways."""

import itertools
import unittest

from alwaysnew.boxes import Box
from alwaysnew.harmchecker import lets_harm
from alwaysnew.harmpapers import harm_paper
from alwaysnew.quietchecker import lets_quiet
from alwaysnew.quietpapers import quiet_paper
from alwaysnew.replaying import replayed
from alwaysnew.running import past_to
from alwaysnew.services import Service
from alwaysnew.standings import past_to_standing
from alwaysnew.truthchecker import lets_truth
from alwaysnew.truthpapers import truth_paper
from alwaysnew.waitchecker import lets_wait
from alwaysnew.waiting import latest
from alwaysnew.waitpapers import wait_paper
from tests.examples import FIRST, GAPS, LAST, LATE, LONE, NEW, OLD, THREE, caught, made_machine, plain_run, readings
from tests.harmexamples import STUCK, falling_machine, plain_wrong
from tests.tailexamples import BRIEF, FLIP, SILENT, TWO

PAIRS = ((OLD, NEW), (OLD, FIRST), (NEW, LAST), (SILENT, BRIEF), (LAST, TWO), (FLIP, STUCK), (GAPS, NEW), (LATE, LONE),
         (LONE, LATE), (SILENT, STUCK), (made_machine(3, 3, THREE[0]), THREE),
         (SILENT, falling_machine(4, 4, ('a', 'b'), ('', 'x', 'y'))))


def planned():
    """Yield services that read something, and then planned a new version."""
    for old, new in PAIRS:
        for past in readings(old[0], 2):
            service = Service(old)
            service.do_all(*reads(past), ('plan', new))
            yield service, past


def reads(reading):
    """Return the events for a reading."""
    return [('read', letter) for letter in reading]


def after(service, *events):
    """Return another service after more events."""
    other = replayed(service.log())
    other.do_all(*events)
    return other


class GuaranteesTest(unittest.TestCase):
    def test_what_goes_live_when_ready_says_no_wrong_word(self):
        # (N1): with all readings behind, after each past that may have been read.
        for service, past in planned():
            old, new = service.versions
            if 1 in service.ready:
                service.replace(1)
                for reading in readings(old[0], 4):
                    self.assertEqual(service.tried(*reads(reading)), plain_run(new, (*past, *reading))[1][len(past):])
                    self.assertEqual(after(service, *reads(reading)).wrongs(), ())
                self.assertEqual((service.is_true, service.wrongs()), (True, ()))

    def test_what_is_not_true_can_be_wrong(self):
        # (N1): the paper tells after which past, and with which reading.
        for service, _ in planned():
            old, new = service.versions
            for state in range(len(new[1])):
                paper = truth_paper(service.knowledge, 1, state)
                is_true = lets_truth(service.knowledge, 1, state, paper)
                forced = after(service, ('force', 1, state))
                self.assertIs(forced.is_true, is_true)
                if not is_true:
                    _, past, reading = paper
                    # This past leads to the same knowledge, and so to the same service.
                    other = Service(old)
                    other.do_all(*reads(past), ('plan', new), ('force', 1, state), *reads(reading))
                    self.assertIn(len(past) + len(reading) - 1, other.wrongs())

    def test_waiting(self):
        # (N3): the version is ready after so many letters, whatever they are, and stays so.
        found = set()
        for service, _ in planned():
            letters, wait, soonest = service.versions[0][0], service.latest_wait(1), service.soonest_reading(1)
            for many in range(4):
                ready = [1 in after(service, *reads(reading)).ready
                         for reading in itertools.product(letters, repeat=many)]
                self.assertEqual(all(ready), wait is not None and wait <= many)
                self.assertEqual(any(ready), soonest is not None and len(soonest) <= many)
            paper = wait_paper(service.versions[1], service[1])
            self.assertEqual(lets_wait(service.versions[1], service[1], paper), wait)
            if wait is None:
                _, reading, ring = paper
                self.assertNotIn(1, after(service, *reads(reading), *reads(ring), *reads(ring)).ready)
            found.add(wait)
        self.assertLessEqual({None, 0, 1, 2}, found)

    def test_harm(self):
        # (N6): no more words are wrong than harm_now tells, and as many can be.
        found = set()
        for service, past in planned():
            new, told = service.versions[1], service.harm_now(1)
            if told is not None:
                harm, state = told
                paper = harm_paper(new, state, service[1])
                self.assertEqual(lets_harm(new, state, service[1], paper), harm)
                forced = after(service, ('force', 1, state))
                wrong = [len(after(forced, *reads(reading)).wrongs()) for reading in readings(new[0], 3)]
                self.assertLessEqual(max(wrong), harm)
                # The true state is that to which the past of the paper's other state leads.
                other = [standing for standing in service.knowledge.standings if standing[1] == paper[1]][0]
                begun = Service(service.versions[0])
                begun.do_all(*reads(past_to_standing(service.versions, other)), ('plan', new), ('force', 1, state),
                             *reads(paper[2]))
                self.assertEqual(len(begun.wrongs()), harm)
                found.add(harm)
        self.assertLessEqual({0, 1, 2}, found)

    def test_healing(self):
        found = set()
        for service, _ in planned():
            letters = service.versions[0][0]
            for state in range(len(service.versions[1][1])):
                forced = after(service, ('force', 1, state))
                heal = forced.heal_time()
                for many in range(4):
                    true = [after(forced, *reads(reading)).is_true
                            for reading in itertools.product(letters, repeat=many)]
                    self.assertEqual(all(true), heal is not None and heal <= many)
                found.add(heal)
        self.assertLessEqual({None, 0, 1, 2}, found)

    def test_quiet_words(self):
        # (N8): with the least set, and with no part of it, the version can go live now.
        for service, _ in planned():
            (words,) = service.quiet_needed(1)
            quiet = after(service, ('quiet', words))
            self.assertIn(1, quiet.ready)
            self.assertEqual(after(quiet, ('replace', 1)).live, 1)
            for at in range(len(words)):
                less = after(service, ('quiet', (*words[:at], *words[at + 1:])))
                self.assertNotIn(1, less.ready)
            for most in (0, 1, 2):
                for words in service.quiet_needed(1, most=most):
                    paper = quiet_paper(service.versions[1], service[1], words, most=most)
                    harm = lets_quiet(service.versions[1], service[1], words, paper, most=most)
                    self.assertEqual(after(service, ('quiet', words)).harm_now(1)[0], harm)

    def test_planned_early(self):
        # (N1): what is planned first and read then lies in what is read first and planned then.
        for old, new in PAIRS:
            for past in readings(old[0], 3):
                early, late = Service(old), Service(old)
                early.do_all(('plan', new), *reads(past))
                late.do_all(*reads(past), ('plan', new))
                self.assertIs(early.knowledge.lies_in(late.knowledge), True)
                # From the beginning on it would be known exactly.
                self.assertIn(tuple(plain_run(machine, past)[0] for machine in (old, new)), early)

    def test_values_that_the_package_returned(self):
        # A line of boxes has more states than the limits of [9] allow.
        machine = (Box(made_machine(1, 5, words=('a', 'b'))) | Box(made_machine(9, 4))).machine
        self.assertGreater(len(machine[1]), 5)
        states = tuple(range(0, len(machine[1]), 2))
        self.assertEqual(lets_wait(machine, states, wait_paper(machine, states)), latest(machine, states))
        for state in range(len(machine[1])):
            paper = harm_paper(machine, state, states)
            harm = lets_harm(machine, state, states, paper)
            if harm is not None:
                self.assertEqual(plain_wrong(machine, state, paper[1], paper[2]), harm)
        service = Service(machine)
        service.do_all(*reads(past_to(machine, len(machine[1]) - 1)), ('plan', NEW), ('plan', machine))
        self.assertEqual((service.live_state, 2 in service.ready), (len(machine[1]) - 1, True))
        self.assertIsNone(caught(service.tried, ('replace', 2), ('forget', 0), ('read', 'a')))


if __name__ == '__main__':
    unittest.main()
