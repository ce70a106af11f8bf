"""[39] and [40]: true_states, is_true, is_ready and ready_versions."""

import itertools
import unittest

from alwaysnew.errors import InvalidKnowledge, InvalidState
from alwaysnew.knowledge import Knowledge
from alwaysnew.readiness import is_ready, is_true, ready_versions, true_states
from tests.examples import (FIRST, GAPS, LATE, NEW, ODD, OLD, SIXTY, caught, is_new_kind, known, plain_parting,
                            plain_run, version_groups)

KNOWN = Knowledge((OLD,), ((0,),)).extended(NEW)
QUIETS = ((), ('x',), ('no', 'yes'), ('go', 'never', 'x', 'y'))
CALLS = (true_states, is_ready)


def plain_true(k, i, quiet):
    """Return the true states of a version, by the words of [7]."""
    machine = k.versions[i]
    return tuple(t for t in range(len(machine[1]))
                 if all(plain_parting(machine, t, standing[i], quiet) is None for standing in k.standings))


class ReadinessTest(unittest.TestCase):
    def test_the_examples(self):
        self.assertEqual([true_states(KNOWN, 1), true_states(KNOWN, 1, quiet=('no', 'yes')),
                          true_states(KNOWN('b'), 1)], [(), (0, 1, 2), (2,)])
        self.assertEqual([is_ready(KNOWN, 1), ready_versions(KNOWN), ready_versions(KNOWN('b'))],
                         [False, (0,), (0, 1)])

    def test_all(self):
        counts = {True: 0, False: 0}
        for k, quiet in itertools.product(known(version_groups()), QUIETS):
            ready = []
            for i in range(len(k.versions)):
                expected = plain_true(k, i, quiet)
                found = true_states(k, i, quiet=quiet)
                self.assertEqual(found, expected)
                self.assertTrue(is_new_kind(found))
                self.assertIs(is_ready(k, i, quiet=quiet), expected != ())
                counts[expected != ()] += 1
                for t in range(len(k.versions[i][1])):
                    self.assertIs(is_true(k, i, t, quiet=quiet), t in expected)
                if expected:
                    ready.append(i)
            self.assertEqual(ready_versions(k, quiet=quiet), tuple(ready))
            self.assertTrue(is_new_kind(ready_versions(k, quiet=quiet)))
        self.assertGreater(min(counts.values()), 100)

    def test_by_name_and_with_words_that_nobody_says(self):
        quiet = ('maybe', 'no', 'yes')
        self.assertEqual(true_states(quiet=quiet, i=1, k=KNOWN), (0, 1, 2))
        self.assertEqual(true_states(i=1, k=KNOWN), ())
        self.assertIs(is_true(quiet=quiet, t=1, i=1, k=KNOWN), True)
        self.assertIs(is_true(t=1, i=1, k=KNOWN), False)
        self.assertIs(is_ready(quiet=quiet, i=1, k=KNOWN), True)
        self.assertIs(is_ready(i=0, k=KNOWN), True)
        self.assertEqual(ready_versions(quiet=quiet, k=KNOWN), (0, 1))
        self.assertEqual(ready_versions(k=KNOWN), (0,))
        self.assertEqual(true_states(KNOWN, 1, quiet=('maybe',)), ())
        for call, args in ((true_states, (KNOWN, 1)), (is_true, (KNOWN, 1, 0)), (is_ready, (KNOWN, 1)),
                           (ready_versions, (KNOWN,))):
            self.assertRaises(TypeError, call, *args, quiet)

    def test_some_quiet_words(self):
        self.assertEqual(true_states(KNOWN, 1, quiet=('no',)), ())
        self.assertEqual(true_states(KNOWN('b'), 1, quiet=('no',)), (2,))
        everything = Knowledge.any_past(FIRST)
        self.assertEqual(true_states(everything, 0, quiet=('x',)), ())
        self.assertEqual(true_states(everything, 0, quiet=('x', 'y')), (0, 1, 2))
        self.assertEqual(true_states(Knowledge.any_past(LATE), 0, quiet=('x', 'y')), (0, 1, 2))

    def test_states_that_are_not_reached_can_be_true(self):
        self.assertEqual(true_states(Knowledge((GAPS,), ((2,),)), 0), (1, 2))
        self.assertIs(is_true(Knowledge((GAPS,), ((2,),)), 0, 1), True)
        self.assertEqual(true_states(Knowledge.begun(OLD), 0), (0, 1))

    def test_indexes_of_any_kind(self):
        for thing in (*ODD, 2, 3, '', '0', (), (0,), KNOWN):
            expected = (InvalidKnowledge, 'version', thing)
            for call in CALLS:
                self.assertEqual(caught(call, KNOWN, thing), expected)
                self.assertEqual(caught(call, KNOWN, thing, quiet=('no',)), expected)
            # The error for the version comes before the one for the state.
            for t in (0, 1, 99, SIXTY):
                self.assertEqual(caught(is_true, KNOWN, thing, t), expected)

    def test_states_that_are_none(self):
        for t in (3, 4, 99, SIXTY, 10 ** 80):
            self.assertEqual(caught(is_true, KNOWN, 1, t), (InvalidState, t))
            self.assertEqual(caught(is_true, KNOWN, 1, t, quiet=('no', 'yes')), (InvalidState, t))
        # Each version has its own states.
        self.assertEqual(caught(is_true, KNOWN, 0, 2), (InvalidState, 2))
        self.assertIs(is_true(KNOWN('b'), 1, 2), True)

    def test_consequences(self):
        for k, quiet in itertools.product(known(version_groups()[:16]), QUIETS[:3]):
            for i, machine in enumerate(k.versions):
                true = true_states(k, i, quiet=quiet)
                for letter, t in itertools.product(machine[0], true):
                    self.assertIs(is_true(k(letter), i, plain_run(machine, (letter,), t)[0], quiet=quiet), True)
                for standing in k.standings:
                    narrower = Knowledge(k.versions, (standing,))
                    self.assertLessEqual(set(true), set(true_states(narrower, i, quiet=quiet)))
                for t, other in itertools.product(true, range(len(machine[1]))):
                    alike = plain_parting(machine, t, other, quiet) is None
                    self.assertIs(other in true, alike)

    def test_once_ready_it_stays_ready(self):
        for k in known(version_groups()[:16]):
            for letter in k.versions[0][0]:
                self.assertLessEqual(set(ready_versions(k)), set(ready_versions(k(letter))))


if __name__ == '__main__':
    unittest.main()
