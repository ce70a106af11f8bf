"""[4], [23], [24] and [26]: are_alike, classes_of and parting_reading."""

import itertools
import unittest

from alwaysnew.alikeness import are_alike, classes_of, parting_reading
from alwaysnew.errors import InvalidState
from alwaysnew.running import led, quieted
from tests.examples import (FIRST, GAPS, LAST, MACHINES, NEW, ODD, OLD, THREE, caught, is_new_kind, made_machine,
                            plain_parting, plain_run, small_machines)

QUIETS = ((), ('x',), ('no', 'yes'), ('go', 'x', 'y'), ('never',), ('a', 'no', 'z'))
MADE = [made_machine(seed, states=2 + seed % 3, words=('', '', 'x')) for seed in range(40)] + small_machines()


class AlikenessTest(unittest.TestCase):
    def test_the_examples(self):
        self.assertEqual([classes_of(NEW), classes_of(NEW, quiet=('no', 'yes')), classes_of(OLD)],
                         [(0, 1, 2), (0, 0, 0), (0, 0)])
        self.assertEqual(parting_reading(NEW, 0, 1), ('b',))
        self.assertEqual(parting_reading(NEW, 0, 2, quiet=('no',)), ('a', 'b'))

    def test_all_pairs_of_states(self):
        for machine in (*MACHINES, *MADE):
            for quiet in QUIETS:
                states = range(len(machine[1]))
                for one, other in itertools.product(states, states):
                    expected = plain_parting(machine, one, other, quiet)
                    self.assertEqual(parting_reading(machine, one, other, quiet=quiet), expected)
                    self.assertIs(are_alike(machine, one, other, quiet=quiet), expected is None)

    def test_classes(self):
        for machine in (*MACHINES, *MADE):
            for quiet in QUIETS:
                states = range(len(machine[1]))
                least = [min(one for one in states if plain_parting(machine, one, state, quiet) is None)
                         for state in states]
                self.assertEqual(classes_of(machine, quiet=quiet), tuple(least))
                self.assertTrue(is_new_kind(classes_of(machine, quiet=quiet)))

    def test_by_name(self):
        self.assertEqual(classes_of(quiet=('no', 'yes'), machine=NEW), (0, 0, 0))
        self.assertIs(are_alike(other=1, machine=OLD, one=0), True)
        self.assertIs(are_alike(quiet=('no',), other=1, machine=NEW, one=0), False)
        self.assertEqual(parting_reading(other=0, one=2, quiet=('no',), machine=NEW), ('a', 'b'))
        self.assertIsNone(parting_reading(machine=OLD, other=0, one=1))
        for call in (are_alike, parting_reading):
            self.assertRaises(TypeError, call, OLD, 0, 1, ())
        self.assertRaises(TypeError, classes_of, OLD, ())

    def test_the_least_of_the_shortest(self):
        # Both letters part the states at once; b parts them sooner than a; two ways of two letters.
        self.assertEqual(parting_reading(LAST, 0, 1), ('a',))
        self.assertEqual(parting_reading(NEW, 0, 2), ('b',))
        machine = (('a', 'b', 'c'), (((0, ''), (2, ''), (2, '')), ((1, ''), (3, ''), (3, '')),
                                     ((2, ''), (2, ''), (2, 'x')), ((3, ''), (3, ''), (3, 'y'))))
        self.assertEqual(parting_reading(machine, 0, 1), ('b', 'c'))
        self.assertEqual(parting_reading(machine, 1, 0), ('b', 'c'))
        self.assertTrue(is_new_kind(parting_reading(machine, 1, 0)))
        crossed = (('a', 'b'), (((2, ''), (4, '')), ((3, ''), (5, '')), ((2, ''), (2, 'x')), ((3, ''), (3, 'y')),
                                ((4, 'x'), (4, '')), ((5, 'y'), (5, ''))))
        self.assertEqual(parting_reading(crossed, 0, 1), ('a', 'b'))

    def test_states_that_are_not_reached(self):
        self.assertEqual(classes_of(GAPS), (0, 1, 1, 3, 4))
        self.assertIs(are_alike(GAPS, 2, 1), True)
        self.assertEqual(parting_reading(GAPS, 3, 0), ('a',))

    def test_states_that_are_none(self):
        for thing in (*ODD, 3, 99, '', 'a', (0,)):
            for call in (are_alike, parting_reading):
                self.assertEqual(caught(call, NEW, thing, 0), (InvalidState, thing))
                self.assertEqual(caught(call, NEW, 0, thing), (InvalidState, thing))
                self.assertEqual(caught(call, NEW, thing, 'x'), (InvalidState, thing))
                self.assertEqual(caught(call, NEW, thing, thing), (InvalidState, thing))

    def test_alike_states_stay_alike(self):
        for machine in (*MACHINES, *MADE):
            states = range(len(machine[1]))
            for one, other, quiet in itertools.product(states, states, QUIETS):
                if are_alike(machine, one, other, quiet=quiet):
                    more = tuple(sorted({*quiet, 'go', 'x'}))
                    self.assertTrue(are_alike(machine, one, other, quiet=more))
                    for letter in machine[0]:
                        self.assertTrue(are_alike(machine, led(machine, (letter,), state=one),
                                                  led(machine, (letter,), state=other), quiet=quiet))

    def test_shortest_parting_readings_are_shorter_than_the_number_of_states(self):
        chain = (('a',), (*[((state + 1, ''),) for state in range(199)], ((199, 'x'),)))
        self.assertEqual(parting_reading(chain, 0, 1), ('a',) * 199)
        self.assertEqual(parting_reading(chain, 199, 0), ('a',))
        self.assertEqual(classes_of(chain), tuple(range(200)))
        self.assertEqual(classes_of(quieted(chain, ('x',))), (0,) * 200)
        for machine in (FIRST, THREE, *MADE):
            for one, other in itertools.combinations(range(len(machine[1])), 2):
                reading = parting_reading(machine, one, other)
                if reading is not None:
                    self.assertLess(len(reading), len(machine[1]))
                    self.assertNotEqual(plain_run(machine, reading, one)[1][-1],
                                        plain_run(machine, reading, other)[1][-1])


if __name__ == '__main__':
    unittest.main()
