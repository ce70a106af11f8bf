"""[41]: least_tail."""

import itertools
import unittest

from alwaysnew.errors import InvalidKnowledge
from alwaysnew.knowledge import Knowledge
from alwaysnew.readiness import is_ready
from alwaysnew.tails import least_tail
from tests.examples import (ALL, FIRST, GAPS, LAST, LATE, NEW, OLD, THREE, caught, plain_reached, readings)
from tests.tailexamples import BRIEF, FLIP, SILENT, TWO, machine_pairs, plain_least_tail

QUIETS = ((), ('x',), ('no', 'yes'), ('go', 'never', 'x', 'y'))


class TailsTest(unittest.TestCase):
    def test_the_examples(self):
        self.assertEqual([least_tail(OLD, LAST), least_tail(OLD, NEW), least_tail(OLD, NEW, quiet=('no', 'yes'))],
                         [1, None, 0])

    def test_all(self):
        found = set()
        for (old, new), quiet in itertools.product(machine_pairs(), QUIETS):
            least = least_tail(old, new, quiet=quiet)
            self.assertEqual(least, plain_least_tail(old, new, quiet))
            self.assertIn(type(least), (int, type(None)))
            found.add(least)
        self.assertLessEqual({None, 0, 1, 2, 3}, found)

    def test_none_one_and_two_letters(self):
        for old, new, least in ((OLD, OLD, 0), (NEW, OLD, 0), (SILENT, SILENT, 0), (LAST, LAST, 0), (SILENT, LAST, 1),
                                (SILENT, TWO, 2), (OLD, TWO, 2), (LAST, TWO, 2), (TWO, TWO, 0), (TWO, LAST, 0),
                                (SILENT, FLIP, None), (FLIP, FLIP, 0), (OLD, FIRST, None), (FIRST, FIRST, 0),
                                (GAPS, GAPS, 0), (LAST, FIRST, None)):
            self.assertEqual(least_tail(old, new), least)

    def test_a_late_difference(self):
        self.assertEqual(least_tail(SILENT, BRIEF), 3)
        self.assertEqual(least_tail(SILENT, BRIEF, quiet=('x',)), 3)
        self.assertEqual(least_tail(SILENT, BRIEF, quiet=('x', 'y')), 0)

    def test_by_name_and_with_words_that_nobody_says(self):
        self.assertEqual(least_tail(new=LAST, old=OLD), 1)
        self.assertEqual(least_tail(quiet=('maybe', 'no', 'yes'), new=NEW, old=OLD), 0)
        self.assertIsNone(least_tail(OLD, NEW, quiet=('maybe', 'no')))
        self.assertRaises(TypeError, least_tail, OLD, NEW, ())

    def test_machines_with_other_letters(self):
        for old, new in ((OLD, LATE), (LATE, OLD), (OLD, THREE), (OLD, ALL), (ALL, LATE)):
            self.assertEqual(caught(least_tail, old, new), (InvalidKnowledge, 'letters', 1))
            self.assertEqual(caught(least_tail, old, new, quiet=('x',)), (InvalidKnowledge, 'letters', 1))

    def is_enough(self, old, new, many, quiet):
        """Return whether the last letters tell a true state of new, in whatever state old is."""
        for (p,), tail in itertools.product(plain_reached((old,)), readings(old[0], many)):
            k = Knowledge((old,), ((p,),))
            if len(tail) == many and not caught(k.cut, tail):
                if not is_ready(k.extended(new, tail=tail), 1, quiet=quiet):
                    return False
        return True

    def test_what_is_known_with_the_last_letters(self):
        for (old, new), quiet in itertools.product(list(machine_pairs())[::3], QUIETS[:2]):
            least = least_tail(old, new, quiet=quiet)
            for many in range(4):
                self.assertIs(self.is_enough(old, new, many, quiet), least is not None and many >= least)


if __name__ == '__main__':
    unittest.main()
