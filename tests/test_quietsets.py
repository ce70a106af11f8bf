"""[60]: least_quiet."""

import unittest

from alwaysnew.errors import InvalidState
from alwaysnew.harm import least_harm
from alwaysnew.quietsets import least_quiet
from alwaysnew.quietwords import parting_words
from tests.examples import FIRST, LATE, LONE, NEW, OLD, SIXTY, THREE, caught, is_new_kind
from tests.harmexamples import WIDE, falling_machine, harm_machines, plain_least_quiet, plain_ready, sets_of_states


class QuietSetsTest(unittest.TestCase):
    def test_the_examples(self):
        self.assertEqual([least_quiet(NEW, (0, 2)), least_quiet(LATE, (0, 1), most=1),
                          least_quiet(LATE, (0, 1), most=2)], [(('no', 'yes'),), (('x',), ('y',)), ((),)])

    def test_each_machine(self):
        found = set()
        for machine in harm_machines():
            for states in sets_of_states(machine)[::3]:
                for most in (0, 1, 2, 9):
                    sets = least_quiet(machine, states, most=most)
                    self.assertEqual(sets, plain_least_quiet(machine, states, most))
                    self.assertTrue(is_new_kind(sets))
                    found.add((most, len(sets)))
        self.assertLessEqual({(0, 1), (1, 1), (1, 2), (1, 3), (2, 1), (2, 2), (2, 4), (9, 1)}, found)

    def test_exactly_one_set_for_no_harm(self):
        for machine in harm_machines():
            for states in sets_of_states(machine):
                words = {word for one in states for other in states for word in parting_words(machine, one, other)}
                self.assertEqual(least_quiet(machine, states), (tuple(sorted(words)),))
                self.assertTrue(plain_ready(machine, states, tuple(sorted(words))))

    def test_nothing_must_be_quiet(self):
        self.assertEqual(least_quiet(OLD, (0, 1)), ((),))
        self.assertEqual(least_quiet(LONE, (0,)), ((),))
        self.assertEqual(least_quiet(NEW, (1,)), ((),))
        for most in (2, 3, 100, SIXTY, 10 ** 80):
            self.assertEqual(least_quiet(LATE, (0, 1), most=most), ((),))

    def test_a_bound_for_what_has_none(self):
        for most in (0, 1, 2, SIXTY):
            self.assertEqual(least_quiet(FIRST, (1, 2), most=most), (('x', 'y'),))

    def test_ascending_and_no_set_in_another_one(self):
        sizes = set()
        for seed in range(40):
            machine = falling_machine(seed, 5, THREE[0], ('', 'p', 'q', 'r', 's'))
            for most in (1, 2, 3):
                sets = least_quiet(machine, (0, 1, 3), most=most)
                self.assertEqual(list(sets), sorted(sets))
                for one in sets:
                    self.assertEqual([other for other in sets if set(other) <= set(one)], [one])
                    self.assertLessEqual(least_harm(machine, (0, 1, 3), quiet=one)[0], most)
                    sizes.add(len(one))
        self.assertLessEqual({0, 1, 2, 3}, sizes)

    def test_at_the_limits(self):
        every = (0, 1, 2, 3, 4)
        for machine in (WIDE, falling_machine(3, 5, THREE[0], ('p', 'q', 'r', 's', ''))):
            for most in (0, 1, 2, 3):
                self.assertEqual(least_quiet(machine, every, most=most), plain_least_quiet(machine, every, most))

    def test_errors(self):
        for states, wrong in (((3,), 3), ((0, 1, 2, 3, 4), 3), ((1, SIXTY), SIXTY), ((2, 10 ** 80), 10 ** 80)):
            self.assertEqual(caught(least_quiet, NEW, states), (InvalidState, wrong))
            self.assertEqual(caught(least_quiet, NEW, states, most=5), (InvalidState, wrong))

    def test_by_name(self):
        self.assertEqual(least_quiet(states=(0, 1), machine=LATE), (('x', 'y'),))
        self.assertEqual(least_quiet(most=1, states=(0, 1), machine=LATE), (('x',), ('y',)))
        self.assertRaises(TypeError, least_quiet, LATE, (0, 1), 1)


if __name__ == '__main__':
    unittest.main()
