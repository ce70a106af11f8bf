"""[58]: sure_harm and best_wait."""

import unittest

from alwaysnew.choosing import best_wait, sure_harm
from alwaysnew.errors import InvalidState
from alwaysnew.harm import least_harm
from alwaysnew.waiting import latest
from tests.examples import FIRST, LATE, NEW, SIXTY, THREE, caught, is_new_kind
from tests.harmexamples import (QUIETS, WIDE, cases, falling_machine, no_bound_last, plain_set, plain_sure,
                                sets_of_states)


class ChoosingTest(unittest.TestCase):
    def test_the_examples(self):
        self.assertEqual([[sure_harm(LATE, (0, 1), many) for many in (0, 1, 2)], best_wait(LATE, (0, 1)),
                          best_wait(NEW, (0, 2)), best_wait(FIRST, (1, 2))], [[2, 1, 0], (0, 2), (1, 0), None])

    def test_sure_harm(self):
        found = set()
        for machine, states, quiet in cases(4):
            # There are fewer than 34 sets of states.
            for many in (0, 1, 2, 3, 4, 7, 33, 34, 100, SIXTY, 10 ** 80):
                harm = sure_harm(machine, states, many, quiet=quiet)
                self.assertEqual(harm, plain_sure(machine, states, min(many, 33), quiet))
                self.assertIn(type(harm), (int, type(None)))
                found.add((min(many, 4), harm))
        self.assertLessEqual({(0, None), (4, None), (0, 3), (1, 2), (2, 1), (3, 0), (4, 1), (4, 2)}, found)

    def test_best_wait(self):
        found = set()
        for machine, states, quiet in cases(2):
            harms = [plain_sure(machine, states, many, quiet) for many in range(33)]
            best = best_wait(machine, states, quiet=quiet)
            if best is None:
                self.assertEqual(harms, [None] * 33)
            else:
                least = min(harms, key=no_bound_last)
                self.assertEqual(best, (least, harms.index(least)))
            self.assertTrue(is_new_kind(best))
            found.add(best)
        self.assertLessEqual({None, (0, 0), (0, 1), (0, 3), (1, 0), (1, 1), (1, 2), (2, 1)}, found)

    def test_the_rule_in_brackets(self):
        for machine, states, quiet in cases(7):
            least = least_harm(machine, states, quiet=quiet)
            now = None if least is None else least[0]
            self.assertEqual(sure_harm(machine, states, 0, quiet=quiet), now)
            for many in range(1, 5):
                later = [sure_harm(machine, plain_set(machine, states, (letter,)), many - 1, quiet=quiet)
                         for letter in machine[0]]
                expected = min(now, max(later, key=no_bound_last), key=no_bound_last)
                self.assertEqual(sure_harm(machine, states, many, quiet=quiet), expected)

    def test_quiet_words(self):
        self.assertEqual([sure_harm(LATE, (0, 1), 0, quiet=quiet) for quiet in (('x',), ('y',), ('x', 'y'), ('z',))],
                         [1, 1, 0, 2])
        self.assertEqual(best_wait(LATE, (0, 1), quiet=('x',)), (0, 2))
        self.assertEqual(best_wait(FIRST, (1, 2), quiet=('x', 'y')), (0, 0))
        self.assertEqual(best_wait(NEW, (0, 2), quiet=('maybe', 'no')), (1, 0))
        self.assertIsNone(best_wait(FIRST, (1, 2), quiet=('never', 'x')))

    def test_at_the_limits(self):
        every = (0, 1, 2, 3, 4)
        for machine in (WIDE, falling_machine(3, 5, THREE[0], ('p', 'q', 'r', 's', ''))):
            for many in (0, 1, 2, 3, 31, 32, SIXTY):
                self.assertEqual(sure_harm(machine, every, many), plain_sure(machine, every, min(many, 33)))

    def test_errors(self):
        for states, wrong in (((3,), 3), ((0, 1, 2, 3, 4), 3), ((1, SIXTY), SIXTY), ((2, 10 ** 80), 10 ** 80)):
            for many in (0, 1, SIXTY):
                self.assertEqual(caught(sure_harm, NEW, states, many), (InvalidState, wrong))
            self.assertEqual(caught(best_wait, NEW, states), (InvalidState, wrong))

    def test_by_name(self):
        self.assertEqual(sure_harm(many=1, states=(0, 1), machine=LATE), 1)
        self.assertEqual(sure_harm(quiet=('x',), many=0, states=(0, 1), machine=LATE), 1)
        self.assertEqual(best_wait(states=(0, 1), machine=LATE), (0, 2))
        self.assertEqual(best_wait(quiet=('x', 'y'), states=(0, 1), machine=LATE), (0, 0))
        self.assertRaises(TypeError, sure_harm, LATE, (0, 1), 0, ())
        self.assertRaises(TypeError, best_wait, LATE, (0, 1), ())


class ConsequencesTest(unittest.TestCase):
    def test_more_letters_give_no_greater_number(self):
        for machine, states, quiet in cases(6):
            harms = [sure_harm(machine, states, many, quiet=quiet) for many in (0, 1, 2, 3, 5, 40)]
            self.assertEqual(harms, sorted(harms, key=no_bound_last, reverse=True))

    def test_no_harm_if_and_only_if_ready_in_time(self):
        for machine, states, quiet in cases(6):
            wait = latest(machine, states, quiet=quiet)
            for many in (0, 1, 2, 3, 40):
                in_time = wait is not None and wait <= many
                self.assertEqual(sure_harm(machine, states, many, quiet=quiet) == 0, in_time)

    def test_all_sets_of_one_machine(self):
        for quiet in QUIETS:
            for states in sets_of_states(WIDE):
                self.assertEqual(sure_harm(WIDE, states, 2, quiet=quiet), plain_sure(WIDE, states, 2, quiet))


if __name__ == '__main__':
    unittest.main()
