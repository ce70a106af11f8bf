"""[55] and [57]: harm_of, least_harm and heals_within."""

import itertools
import unittest

from alwaysnew.errors import InvalidState
from alwaysnew.harm import harm_of, heals_within, least_harm
from tests.examples import FIRST, GAPS, LATE, NEW, ODD, SIXTY, THREE, caught, is_new_kind
from tests.harmexamples import (QUIETS, STUCK, SWAP, WIDE, cases, falling_machine, harm_machines, plain_harm,
                                plain_heals, plain_least_harm, plain_ready, plain_wrong, sets_of_states, unlike)


class HarmTest(unittest.TestCase):
    def test_the_examples(self):
        self.assertEqual([harm_of(NEW, 0, (2,)), harm_of(FIRST, 1, (1, 2)), harm_of(LATE, 2, (0, 1)),
                          least_harm(NEW, (0, 2)), least_harm(FIRST, (1, 2))], [1, None, 2, (1, 0), None])
        self.assertEqual([heals_within(LATE, 0, (1,)), heals_within(NEW, 0, (2,))], [2, None])

    def test_each_state_of_each_machine(self):
        harms, heals = set(), set()
        for machine, states, quiet in cases(2):
            for one in range(len(machine[1])):
                harm = harm_of(machine, one, states, quiet=quiet)
                self.assertEqual(harm, plain_harm(machine, one, states, quiet))
                heal = heals_within(machine, one, states, quiet=quiet)
                self.assertEqual(heal, plain_heals(machine, one, states, quiet))
                self.assertTrue({type(harm), type(heal)} <= {int, type(None)})
                harms.add(harm)
                heals.add((heal, harm is None))
        self.assertLessEqual({None, 0, 1, 2, 3, 4}, harms)
        self.assertLessEqual({(None, True), (None, False), (0, False), (1, False), (2, False), (4, False)}, heals)
        self.assertEqual([heal for heal, has_none in heals if has_none], [None])

    def test_least_harm(self):
        found = set()
        for machine, states, quiet in cases():
            least = least_harm(machine, states, quiet=quiet)
            self.assertEqual(least, plain_least_harm(machine, states, quiet))
            self.assertTrue(is_new_kind(least))
            found.add(least)
        self.assertLessEqual({None, (0, 0), (1, 1), (2, 0), (3, 0), (1, 4)}, found)

    def test_the_least_state_may_be_none_of_states(self):
        # One of the states 1 and 2 is the true one, but with 0 or 3 fewer words are wrong.
        self.assertGreater(len([1 for machine, states, quiet in cases() if least_harm(machine, states, quiet=quiet)
                                and least_harm(machine, states, quiet=quiet)[1] not in states]), 10)
        self.assertEqual(least_harm(GAPS, (1,)), (0, 1))
        self.assertEqual(least_harm(GAPS, (2,)), (0, 1))

    def test_no_more_wrong_words_in_any_reading(self):
        for machine, states, quiet in cases(9):
            for one in range(len(machine[1])):
                harm = harm_of(machine, one, states, quiet=quiet)
                longest = max(plain_wrong(machine, one, state, reading, quiet) for state in states
                              for reading in itertools.product(machine[0], repeat=4))
                if harm is not None:
                    self.assertLessEqual(longest, harm)

    def test_a_bound_although_it_does_not_heal(self):
        self.assertEqual((harm_of(STUCK, 0, (1,)), heals_within(STUCK, 0, (1,))), (1, None))
        self.assertEqual((harm_of(NEW, 0, (2,)), heals_within(NEW, 0, (2,))), (1, None))
        self.assertEqual((harm_of(SWAP, 0, (1,)), heals_within(SWAP, 0, (1,))), (None, None))
        self.assertEqual((harm_of(SWAP, 1, (0, 2)), heals_within(SWAP, 2, (2,))), (None, 0))

    def test_quiet_words(self):
        self.assertEqual([harm_of(LATE, 0, (1,), quiet=quiet) for quiet in ((), ('x',), ('y',), ('x', 'y'), ('z',))],
                         [2, 1, 2, 0, 2])
        self.assertEqual([heals_within(LATE, 0, (1,), quiet=quiet) for quiet in ((), ('x',), ('y',), ('x', 'y'))],
                         [2, 2, 2, 0])
        self.assertEqual(least_harm(FIRST, (1, 2), quiet=('x', 'y')), (0, 0))
        self.assertIsNone(least_harm(FIRST, (1, 2), quiet=('maybe', 'x')))
        self.assertEqual(least_harm(NEW, (0, 2), quiet=('maybe', 'no', 'yes')), (0, 0))

    def test_at_the_limits(self):
        every = (0, 1, 2, 3, 4)
        for machine in (WIDE, falling_machine(3, 5, THREE[0], ('p', 'q', 'r', 's', ''))):
            for quiet in ((), ('p', 'q'), ('p', 'q', 'r', 's')):
                self.assertEqual(least_harm(machine, every, quiet=quiet), plain_least_harm(machine, every, quiet))
                self.assertEqual(heals_within(machine, 2, every, quiet=quiet), plain_heals(machine, 2, every, quiet))

    def test_errors(self):
        for call in (harm_of, heals_within):
            for thing in (*ODD, 3, 99, SIXTY, '', '0', (), (0,), []):
                for states in ((0, 2), (7,), (0, SIXTY)):
                    self.assertEqual(caught(call, NEW, thing, states), (InvalidState, thing))
                    self.assertEqual(caught(call, NEW, thing, states, quiet=('no', 'yes')), (InvalidState, thing))
            for states, wrong in (((3,), 3), ((0, 1, 2, 3, 4), 3), ((1, SIXTY), SIXTY), ((2, 10 ** 80), 10 ** 80)):
                self.assertEqual(caught(call, NEW, 0, states), (InvalidState, wrong))
        for states, wrong in (((3,), 3), ((0, 1, 2, 3, 4), 3), ((1, SIXTY), SIXTY), ((2, 10 ** 80), 10 ** 80)):
            self.assertEqual(caught(least_harm, NEW, states), (InvalidState, wrong))

    def test_by_name(self):
        for call in (harm_of, heals_within):
            self.assertEqual(call(states=(1,), one=0, machine=LATE), 2)
            self.assertEqual(call(quiet=('x', 'y'), states=(1,), one=0, machine=LATE), 0)
            self.assertRaises(TypeError, call, LATE, 0, (1,), ())
        self.assertEqual(least_harm(states=(0, 2), machine=NEW), (1, 0))
        self.assertEqual(least_harm(quiet=('no', 'yes'), states=(0, 2), machine=NEW), (0, 0))
        self.assertRaises(TypeError, least_harm, NEW, (0, 2), ())


class ConsequencesTest(unittest.TestCase):
    def test_no_harm_if_and_only_if_alike(self):
        for machine, states, quiet in cases(4):
            for one in range(len(machine[1])):
                alike = not any(unlike(machine, one, state, quiet) for state in states)
                self.assertEqual(harm_of(machine, one, states, quiet=quiet) == 0, alike)
                self.assertEqual(heals_within(machine, one, states, quiet=quiet) == 0, alike)
            least = least_harm(machine, states, quiet=quiet)
            self.assertEqual(least is not None and least[0] == 0, plain_ready(machine, states, quiet))

    def test_the_same_harm_both_ways_round(self):
        for machine, quiet in itertools.product(harm_machines(), QUIETS):
            for one, other in itertools.product(range(len(machine[1])), repeat=2):
                for call in (harm_of, heals_within):
                    found = call(machine, one, (other,), quiet=quiet)
                    self.assertEqual(call(machine, other, (one,), quiet=quiet), found)

    def test_what_heals_has_no_more_harm(self):
        for machine, states, quiet in cases(3):
            for one in range(len(machine[1])):
                many = heals_within(machine, one, states, quiet=quiet)
                if many is not None:
                    self.assertLessEqual(harm_of(machine, one, states, quiet=quiet), many)

    def test_more_quiet_words_and_fewer_states(self):
        for machine in harm_machines():
            for states in sets_of_states(machine)[::3]:
                for one in range(len(machine[1])):
                    harm = harm_of(machine, one, states)
                    others = [harm_of(machine, one, states, quiet=quiet) for quiet in QUIETS]
                    others += [harm_of(machine, one, (state,)) for state in states]
                    if harm is not None:
                        self.assertLessEqual(max(others), harm)
                    self.assertIn(harm, others)


if __name__ == '__main__':
    unittest.main()
