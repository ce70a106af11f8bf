"""[31]: lets_versions, with [2], [3] and [11]."""

import itertools
import unittest

from alwaysnew.errors import InvalidPaper
from alwaysnew.machinechecker import lets_machine
from alwaysnew.versionchecker import lets_versions
from tests.examples import (ALL, DEEP, FIRST, GAPS, LAST, LATE, LONE, MACHINES, NEW, ODD, OLD, SIXTY, THREE, caught,
                            version_groups)

# Each of these raises another error in lets_machine.
WRONG = ((NEW[0], list(NEW[1])), (('b', 'a'), NEW[1]), (NEW[0], ()), (NEW[0], (((0, ''),),)),
         (NEW[0], (((0, ''), (0, '')), ((0, ''),))), (NEW[0], (((0, ''), (1, '')),)), (NEW[0], (((-1, ''), (0, '')),)),
         (NEW[0], (((0, ''), (0, '')), ((0, ''), (2, '')))))


class VersionsTest(unittest.TestCase):
    def refuses(self, thing, word, at):
        self.assertEqual(caught(lets_versions, thing), (InvalidPaper, word, at), repr(thing)[:200])

    def test_versions(self):
        for versions in version_groups():
            self.assertEqual(lets_versions(versions), len(versions))
            self.assertIs(type(lets_versions(thing=versions)), int)
        for machine in MACHINES:
            for many in (1, 2, 3, 5):
                self.assertEqual(lets_versions((machine,) * many), many)

    def test_other_values(self):
        for thing in (*ODD, 0, '', (), [], 'ab', [OLD], [OLD, NEW], 3, None):
            if not isinstance(thing, tuple) or not thing:
                self.refuses(thing, 'shape', -1)
            else:
                self.refuses(thing, 'shape', (0, -1))
        self.refuses((), 'shape', -1)

    def test_a_machine_is_no_versions(self):
        for machine in MACHINES:
            self.refuses(machine, 'shape', (0, -1))

    def test_each_error_of_a_machine_in_each_place(self):
        for machine in WRONG:
            _, word, at = caught(lets_machine, machine)
            for versions, i in (((machine,), 0), ((OLD, machine), 1), ((OLD, NEW, machine), 2), ((machine, OLD), 0),
                                ((OLD, machine, NEW), 1), ((machine, machine), 0)):
                self.refuses(versions, word, (i, at))

    def test_the_words_and_places(self):
        expected = [('shape', -1), ('letters', -1), ('rows', -1), ('row', 0), ('row', 1), ('next', (0, 1)),
                    ('next', (0, 0)), ('next', (1, 1))]
        for machine, (word, at) in zip(WRONG, expected, strict=True):
            self.refuses((NEW, machine), word, (1, at))
        for thing in (None, True, 0, SIXTY, 'a', (), [], DEEP, (OLD,), (OLD, NEW)):
            self.refuses((NEW, thing), 'shape', (1, -1))

    def test_bools_are_no_numbers(self):
        self.refuses((OLD, (('a', 'b'), (((False, ''), (0, '')),))), 'shape', (1, -1))
        self.refuses(((('a', 'b'), (((True, ''), (0, '')), ((0, ''), (0, '')))),), 'shape', (0, -1))

    def test_other_letters(self):
        self.refuses((OLD, LATE), 'letters', 1)
        self.refuses((LATE, OLD), 'letters', 1)
        self.refuses((OLD, NEW, THREE), 'letters', 2)
        self.refuses((ALL, LONE, LATE), 'letters', 1)
        self.refuses((LATE, LONE, ALL), 'letters', 2)
        # The letters of version 0 count, not those of the version before.
        self.refuses((LATE, OLD, NEW), 'letters', 1)

    def test_all_checks_of_a_version_come_before_those_of_the_next_one(self):
        for machine in WRONG:
            _, word, at = caught(lets_machine, machine)
            self.refuses((OLD, LATE, machine), 'letters', 1)
            self.refuses((OLD, machine, LATE), word, (1, at))
            for other in WRONG:
                self.refuses((FIRST, machine, other), word, (1, at))
        # A version with other letters that is no machine either.
        self.refuses((OLD, (('c',), (((1, ''),),))), 'next', (1, (0, 0)))
        self.refuses((OLD, (('c', 'a'), ())), 'letters', (1, -1))

    def test_all_pairs_of_machines(self):
        for one, other in itertools.product(MACHINES, repeat=2):
            if one[0] == other[0]:
                self.assertEqual(lets_versions((one, other)), 2)
            else:
                self.refuses((one, other), 'letters', 1)
        self.assertEqual(lets_versions((GAPS, LAST, NEW)), 3)


if __name__ == '__main__':
    unittest.main()
