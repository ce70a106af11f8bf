"""[27] and [34]: least_machine and is_least."""

import itertools
import unittest

from alwaysnew.least import is_least, least_machine
from alwaysnew.machinechecker import lets_machine
from alwaysnew.running import quieted, said, walked
from tests.examples import (FIRST, GAPS, LATE, MACHINES, NEW, OLD, is_new_kind, made_machine, plain_parting,
                            plain_pasts, readings, small_machines)

QUIETS = ((), ('x',), ('no', 'yes'), ('go', 'x', 'y'), ('never',))
MADE = [made_machine(seed, states=2 + seed % 4, words=('', '', 'x')) for seed in range(40)] + small_machines()
# All rows are equal but for their next states, and one state is not reached.
EQUAL = (('a', 'b'), (((1, 'x'), (2, '')), ((2, 'x'), (0, '')), ((0, 'x'), (1, '')), ((3, 'y'), (3, ''))))


class LeastTest(unittest.TestCase):
    def test_the_examples(self):
        self.assertEqual([is_least(NEW), least_machine(OLD)], [True, (('a', 'b'), (((0, ''), (0, '')),))])

    def test_it_says_the_same(self):
        for machine, quiet in itertools.product((*MACHINES, *MADE, EQUAL), QUIETS):
            least = least_machine(machine, quiet=quiet)
            self.assertEqual(lets_machine(least), len(least[1]))
            self.assertEqual(least[0], machine[0])
            self.assertTrue(is_new_kind(least))
            for reading in readings(machine[0], 5):
                self.assertEqual(said(least, reading), said(machine, reading, quiet=quiet))

    def test_it_has_the_fewest_states_and_is_walked(self):
        for machine, quiet in itertools.product((*MACHINES, *MADE, EQUAL), QUIETS):
            reached = sorted(plain_pasts(machine))
            unlike = [state for state in reached if all(plain_parting(machine, state, other, quiet) is not None
                                                        for other in reached if other < state)]
            least = least_machine(machine, quiet=quiet)
            self.assertEqual(len(least[1]), len(unlike))
            self.assertEqual(walked(least), least)

    def test_machines_that_say_the_same_have_one_least_machine(self):
        self.assertEqual(least_machine(EQUAL), (('a', 'b'), (((0, 'x'), (0, '')),)))
        self.assertEqual(least_machine(NEW, quiet=('no', 'yes')), least_machine(OLD))
        self.assertNotEqual(least_machine(NEW, quiet=('no',)), least_machine(OLD))
        turned = (('a', 'b'), (((2, ''), (1, '')), ((1, 'y'), (1, 'y')), ((2, 'x'), (2, 'x'))))
        self.assertEqual(least_machine(turned), least_machine(FIRST))
        machines = [machine for machine in MADE if machine[0] == ('a', 'b')]
        for one, other in itertools.combinations(machines[:20], 2):
            same = all(said(one, reading) == said(other, reading) for reading in readings(('a', 'b'), 6))
            self.assertEqual(least_machine(one) == least_machine(other), same)

    def test_quiet_words(self):
        self.assertEqual(least_machine(quiet=('x', 'y'), machine=LATE), (('a',), (((0, ''),),)))
        self.assertEqual(least_machine(LATE, quiet=('y',)), (('a',), (((1, ''),), ((2, 'x'),), ((2, ''),))))
        for machine in MADE[:20]:
            self.assertEqual(least_machine(machine, quiet=('x',)), least_machine(quieted(machine, ('x',))))
        self.assertRaises(TypeError, least_machine, LATE, ())

    def test_states_that_are_not_reached(self):
        self.assertEqual(least_machine(GAPS),
                         (('a', 'b'), (((1, 'x'), (2, '')), ((2, 'y'), (1, '')), ((0, ''), (2, 'x')))))

    def test_is_least(self):
        for machine in (*MACHINES, *MADE, EQUAL):
            self.assertIs(is_least(machine=machine), machine == least_machine(machine))
            self.assertIs(is_least(least_machine(machine)), True)
            self.assertEqual(least_machine(least_machine(machine)), least_machine(machine))
        self.assertEqual([is_least(machine) for machine in (OLD, NEW, FIRST, LATE, GAPS, EQUAL)],
                         [False, True, True, True, False, False])
        # It has the fewest states, but is not walked.
        self.assertIs(is_least((('a', 'b'), (((2, ''), (1, '')), ((1, 'y'), (1, 'y')), ((2, 'x'), (2, 'x'))))), False)

    def test_a_large_machine(self):
        ring = (('a',), tuple((((state + 1) % 240, 'x' if state % 6 == 0 else ''),) for state in range(240)))
        self.assertEqual(len(least_machine(ring)[1]), 6)


if __name__ == '__main__':
    unittest.main()
