"""[47] and [50]: soonest and latest."""

import itertools
import unittest

from alwaysnew.errors import InvalidState
from alwaysnew.waiting import latest, soonest
from tests.examples import FIRST, LATE, NEW, OLD, SIXTY, THREE, caught, is_new_kind, readings
from tests.harmexamples import (QUIETS, STUCK, WIDE, cases, falling_machine, harm_machines, plain_latest, plain_ready,
                                plain_set, plain_soonest, sets_of_states)

# Both a and b make it ready after two letters, c after one.
EVEN = (('a', 'b', 'c'), (((2, ''), (2, ''), (4, '')), ((3, ''), (3, ''), (4, '')), ((4, 'x'), (4, 'x'), (4, 'x')),
                          ((4, 'y'), (4, 'y'), (4, 'x')), ((4, ''), (4, ''), (4, ''))))


class WaitingTest(unittest.TestCase):
    def test_the_examples(self):
        self.assertEqual([soonest(NEW, (0, 2)), soonest(FIRST, (0, 1, 2)), latest(NEW, (0, 2)), latest(NEW, (2,)),
                          latest(LATE, (0, 1))], [('b',), None, None, 0, 2])

    def test_soonest(self):
        lengths = set()
        for machine, states, quiet in cases():
            found = soonest(machine, states, quiet=quiet)
            self.assertEqual(found, plain_soonest(machine, states, quiet))
            self.assertTrue(is_new_kind(found))
            lengths.add(None if found is None else len(found))
        self.assertLessEqual({None, 0, 1, 2, 3}, lengths)

    def test_the_least_of_equally_long_readings(self):
        for machine, states, quiet in cases(4):
            found = soonest(machine, states, quiet=quiet)
            if found is not None and len(found) < 4:
                ready = [reading for reading in readings(machine[0], len(found))
                         if plain_ready(machine, plain_set(machine, states, reading), quiet)]
                self.assertEqual(found, ready[0])
        self.assertEqual(soonest(EVEN, (0, 1)), ('c',))
        self.assertEqual(soonest(EVEN, (2, 3)), ('a',))
        self.assertEqual(soonest(STUCK, (0, 1)), ('b',))

    def test_latest(self):
        found = set()
        for machine, states, quiet in cases():
            many = latest(machine, states, quiet=quiet)
            self.assertEqual(many, plain_latest(machine, states, quiet))
            self.assertIn(type(many), (int, type(None)))
            found.add(many)
        self.assertLessEqual({None, 0, 1, 2, 3, 4}, found)

    def test_latest_by_all_readings(self):
        for machine, states, quiet in cases(6):
            many = latest(machine, states, quiet=quiet)
            for length in range(4):
                level = itertools.product(machine[0], repeat=length)
                always = all(plain_ready(machine, plain_set(machine, states, reading), quiet) for reading in level)
                self.assertEqual(always, many is not None and many <= length)

    def test_put_off_for_ever_although_a_reading_makes_ready(self):
        self.assertEqual((latest(NEW, (0, 1)), soonest(NEW, (0, 1))), (None, ('b',)))
        self.assertEqual((latest(STUCK, (0, 1, 2)), soonest(STUCK, (0, 1, 2))), (None, ('b',)))
        self.assertEqual((latest(FIRST, (1, 2)), soonest(FIRST, (1, 2))), (None, None))
        both = [(latest(machine, states, quiet=quiet), soonest(machine, states, quiet=quiet))
                for machine, states, quiet in cases()]
        self.assertGreater(len([one for one in both if one[0] is None and one[1] is not None]), 50)
        self.assertGreater(len([one for one in both if one == (None, None)]), 50)

    def test_one_state_is_ready(self):
        for machine in harm_machines():
            for state in range(len(machine[1])):
                self.assertEqual((soonest(machine, (state,)), latest(machine, (state,))), ((), 0))

    def test_quiet_words(self):
        self.assertEqual(latest(NEW, (0, 2), quiet=('no', 'yes')), 0)
        self.assertEqual(latest(LATE, (0, 1), quiet=('x',)), 2)
        self.assertEqual(latest(LATE, (0, 1), quiet=('y',)), 2)
        self.assertEqual(soonest(LATE, (0, 1), quiet=('x', 'y')), ())
        # Words that nobody says.
        self.assertEqual(latest(LATE, (0, 1), quiet=('never', 'z')), 2)
        self.assertEqual(soonest(NEW, (0, 2), quiet=('maybe', 'no')), ('b',))
        self.assertEqual(soonest(NEW, (0, 2), quiet=('maybe', 'no', 'yes')), ())

    def test_at_the_limits(self):
        every = (0, 1, 2, 3, 4)
        for machine in (WIDE, falling_machine(3, 5, THREE[0], ('p', 'q', 'r', 's', ''))):
            for quiet in ((), ('p', 'q'), ('p', 'q', 'r', 's')):
                self.assertEqual(soonest(machine, every, quiet=quiet), plain_soonest(machine, every, quiet))
                self.assertEqual(latest(machine, every, quiet=quiet), plain_latest(machine, every, quiet))

    def test_errors(self):
        for call in (soonest, latest):
            for states, wrong in (((3,), 3), ((0, 3), 3), ((0, 1, 2, 3), 3), ((0, 99), 99), ((1, 5, 6), 5),
                                  ((0, SIXTY), SIXTY), ((10 ** 80,), 10 ** 80), ((0, 1, 2, 7, SIXTY), 7)):
                self.assertEqual(caught(call, NEW, states), (InvalidState, wrong))
                self.assertEqual(caught(call, NEW, states, quiet=('no', 'yes')), (InvalidState, wrong))
            self.assertEqual(caught(call, OLD, (0, 1, 2)), (InvalidState, 2))

    def test_by_name(self):
        for call in (soonest, latest):
            self.assertEqual(call(states=(0, 1), machine=LATE), call(LATE, (0, 1)))
            found = call(NEW, (0, 2), quiet=('no', 'yes'))
            self.assertEqual(call(quiet=('no', 'yes'), states=(0, 2), machine=NEW), found)
            self.assertRaises(TypeError, call, NEW, (0, 2), ())


class ConsequencesTest(unittest.TestCase):
    def test_soonest_is_no_longer_than_latest(self):
        for machine, states, quiet in cases():
            many = latest(machine, states, quiet=quiet)
            if many is not None:
                self.assertLessEqual(len(soonest(machine, states, quiet=quiet)), many)

    def test_each_letter_makes_latest_lesser(self):
        for machine, states, quiet in cases():
            many = latest(machine, states, quiet=quiet)
            if many:
                behind = [latest(machine, plain_set(machine, states, (letter,)), quiet=quiet) for letter in machine[0]]
                self.assertEqual(max(behind), many - 1)

    def test_fewer_states_and_more_quiet_words(self):
        for machine in harm_machines():
            for states in sets_of_states(machine):
                whole = (soonest(machine, states), latest(machine, states))
                others = [(soonest(machine, states, quiet=quiet), latest(machine, states, quiet=quiet))
                          for quiet in QUIETS]
                fewer = [states[:at] + states[at + 1:] for at in range(len(states)) if len(states) > 1]
                others += [(soonest(machine, less), latest(machine, less)) for less in fewer]
                for reading, many in others:
                    if whole[0] is not None:
                        self.assertLessEqual(len(reading), len(whole[0]))
                    if whole[1] is not None:
                        self.assertLessEqual(many, whole[1])


if __name__ == '__main__':
    unittest.main()
