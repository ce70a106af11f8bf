"""[28] and [34]: says_the_same and parting_past."""

import itertools
import unittest

from alwaysnew.least import least_machine
from alwaysnew.running import said
from alwaysnew.sameness import parting_past, says_the_same
from alwaysnew.standings import reached_standings
from tests.examples import (FIRST, GAPS, LAST, LATE, LONE, NEW, OLD, THREE, changed_rows, is_new_kind, made_machine,
                            plain_parting_past, plain_run, renumbered, small_machines)

QUIETS = ((), ('x',), ('no', 'yes'), ('go', 'x', 'y'), ('never',), ('a', 'no', 'z'))
AB = [OLD, NEW, FIRST, LAST, GAPS, *[made_machine(seed, states=2 + seed % 3, words=('', '', 'x'))
                                     for seed in range(12)]]


class SamenessTest(unittest.TestCase):
    def check_all(self, machines, quiets):
        for one, other, quiet in itertools.product(machines, machines, quiets):
            expected = plain_parting_past(one, other, quiet)
            found = parting_past(one, other, quiet=quiet)
            self.assertEqual(found, expected)
            self.assertEqual(parting_past(other, one, quiet=quiet), expected)
            self.assertTrue(is_new_kind(found))
            self.assertIs(says_the_same(one, other, quiet=quiet), expected is None)
            if found is not None:
                self.assertNotEqual(said(one, found, quiet=quiet)[-1], said(other, found, quiet=quiet)[-1])

    def test_all_pairs(self):
        self.check_all(AB, QUIETS)

    def test_other_letters(self):
        self.check_all([LATE, LONE, *small_machines()], ((), ('x',)))
        self.check_all([THREE, *[made_machine(seed, 4, THREE[0], ('', 'go')) for seed in range(5)]], QUIETS)

    def test_by_name(self):
        self.assertIs(says_the_same(quiet=('no', 'yes'), other=NEW, one=OLD), True)
        self.assertIs(says_the_same(other=NEW, one=OLD), False)
        self.assertEqual(parting_past(quiet=('no',), other=NEW, one=OLD), ('a', 'b'))
        self.assertEqual(parting_past(other=NEW, one=OLD), ('b',))
        self.assertIsNone(parting_past(OLD, NEW, quiet=('no', 'yes')))
        self.assertRaises(TypeError, says_the_same, OLD, NEW, ())
        self.assertRaises(TypeError, parting_past, OLD, NEW, ())

    def test_a_machine_numbered_anew(self):
        for machine in (*AB, THREE):
            self.assertIs(says_the_same(machine, machine), True)
            self.assertIs(says_the_same(machine, tuple(list(machine))), True)
            for order in itertools.permutations(range(1, len(machine[1]))):
                self.assertIs(says_the_same(machine, renumbered(machine, [0, *order])), True)

    def test_one_row_changed(self):
        results = set()
        for machine in (OLD, NEW, FIRST, GAPS, LATE):
            for other in changed_rows(machine):
                expected = plain_parting_past(machine, other, ())
                results.add(None if expected is None else len(expected))
                self.assertEqual(parting_past(machine, other), expected)
                self.assertIs(says_the_same(other, machine), expected is None)
        self.assertLessEqual({None, 1, 2, 3}, results)

    def test_the_least_of_the_shortest(self):
        one = (('a', 'b'), (((1, ''), (1, '')), ((0, 'x'), (0, 'y'))))
        self.assertEqual(parting_past(one, (('a', 'b'), (((1, ''), (1, '')), ((0, 'y'), (0, 'x'))))), ('a', 'a'))
        self.assertEqual(parting_past(one, (('a', 'b'), (((1, ''), (1, '')), ((0, 'x'), (0, ''))))), ('a', 'b'))
        self.assertEqual(parting_past(FIRST, (('a', 'b'), (((1, ''), (0, '')), ((1, 'x'), (1, 'x'))))), ('b', 'a'))
        # What was said before the last letter may differ or not: only the last word counts.
        self.assertEqual(parting_past(LAST, FIRST), ('a',))

    def test_equal_numbers_of_states_say_nothing(self):
        other = (('a', 'b'), (((0, 'x'), (1, '')), ((0, ''), (1, ''))))
        self.assertIs(says_the_same(OLD, other), False)
        self.assertIs(says_the_same(other, other), True)

    def test_the_same_exactly_if_least_machines_are_equal(self):
        for one, other, quiet in itertools.product(AB, AB, QUIETS):
            equal = least_machine(one, quiet=quiet) == least_machine(other, quiet=quiet)
            self.assertIs(says_the_same(one, other, quiet=quiet), equal)
            self.assertIs(says_the_same(least_machine(one, quiet=quiet), one, quiet=quiet), True)

    def test_the_same_exactly_if_the_words_of_each_reached_standing_are(self):
        for one, other in itertools.product(AB, AB):
            words = all(plain_run(one, (letter,), p)[1] == plain_run(other, (letter,), q)[1]
                        for p, q in reached_standings((one, other)) for letter in ('a', 'b'))
            self.assertIs(says_the_same(one, other), words)

    def test_large_machines(self):
        ring = (('a',), tuple((((state + 1) % 60, 'x' if state % 6 == 0 else ''),) for state in range(60)))
        short = (('a',), tuple((((state + 1) % 6, 'x' if state == 0 else ''),) for state in range(6)))
        seven = (('a',), tuple((((state + 1) % 7, 'x' if state == 0 else ''),) for state in range(7)))
        self.assertIs(says_the_same(ring, short), True)
        self.assertEqual(parting_past(ring, seven), ('a',) * 7)
        chain = (('a',), (*[((state + 1, ''),) for state in range(299)], ((299, 'x'),)))
        silent = (('a',), (((0, ''),),))
        self.assertEqual(parting_past(silent, chain), ('a',) * 300)
        self.assertIs(says_the_same(silent, chain, quiet=('x',)), True)


if __name__ == '__main__':
    unittest.main()
