"""[30]: words_said and parting_words."""

import itertools
import unittest

from alwaysnew.alikeness import are_alike
from alwaysnew.errors import InvalidState
from alwaysnew.quietwords import parting_words, words_said
from tests.examples import (FIRST, GAPS, LATE, LONE, MACHINES, NAMED, NEW, ODD, OLD, caught, is_new_kind,
                            made_machine, plain_parting, small_machines)

# States 0 and 1 say go and stop at once, and x and y behind it.
TWO = (('a', 'b'), (((2, 'go'), (0, '')), ((3, 'stop'), (1, '')), ((2, 'x'), (2, '')), ((3, 'y'), (3, ''))))
MADE = [made_machine(seed, states=2 + seed % 4, words=('', 'x', 'y', 'go', 'stop')[:2 + seed % 4])
        for seed in range(30)] + small_machines()


class QuietWordsTest(unittest.TestCase):
    def test_the_examples(self):
        self.assertEqual([words_said(NEW), parting_words(NEW, 1, 2), parting_words(OLD, 0, 1)],
                         [('no', 'yes'), ('no', 'yes'), ()])

    def test_words(self):
        for machine in (*MACHINES, *MADE):
            found = words_said(machine)
            self.assertEqual(found, tuple(sorted({word for row in machine[1] for _, word in row} - {''})))
            self.assertTrue(is_new_kind(found))
        self.assertEqual(words_said(machine=NAMED), ('letters', 'quiet', 'read', 'state'))
        self.assertEqual(words_said(LONE), ())

    def test_words_of_states_that_are_not_reached(self):
        self.assertEqual(words_said(GAPS), ('x', 'y', 'z'))
        self.assertEqual(words_said((('a',), (((0, ''),), ((1, 'never'),)))), ('never',))

    def test_parting_words(self):
        for machine in (*MACHINES, *MADE, TWO):
            names = {word for row in machine[1] for _, word in row} - {''}
            for one, other in itertools.product(range(len(machine[1])), repeat=2):
                expected = [name for name in sorted(names)
                            if plain_parting(machine, one, other, names - {name}) is not None]
                found = parting_words(machine, one, other)
                self.assertEqual(found, tuple(expected))
                self.assertTrue(is_new_kind(found))

    def test_they_are_the_least_quiet_words_with_which_the_states_are_alike(self):
        for machine in (*MACHINES, *MADE, TWO):
            names = words_said(machine)
            sets = [chosen for many in range(len(names) + 1) for chosen in itertools.combinations(names, many)]
            for one, other in itertools.combinations(range(len(machine[1])), 2):
                parting = set(parting_words(machine, one, other))
                for quiet in sets:
                    self.assertIs(are_alike(machine, one, other, quiet=quiet), parting <= set(quiet))

    def test_two_states_with_two_words_each(self):
        self.assertEqual(parting_words(TWO, 0, 1), ('go', 'stop', 'x', 'y'))
        self.assertEqual(parting_words(TWO, 2, 3), ('x', 'y'))
        self.assertEqual(parting_words(TWO, 0, 2), ('go', 'x'))
        self.assertEqual(parting_words(other=2, one=0, machine=TWO), ('go', 'x'))
        self.assertEqual(parting_words(FIRST, 1, 2), ('x', 'y'))
        self.assertEqual(parting_words(LATE, 0, 2), ('x', 'y'))

    def test_alike_states(self):
        for machine, one, other in ((GAPS, 1, 2), (GAPS, 2, 1), (GAPS, 3, 3), (OLD, 1, 0), (LONE, 0, 0)):
            self.assertEqual(parting_words(machine, one, other), ())

    def test_states_that_are_none(self):
        # Also of a machine that says nothing.
        for machine, thing in itertools.product((NEW, OLD, TWO), (*ODD, 4, 99, '', 'a', (0,))):
            self.assertEqual(caught(parting_words, machine, thing, 0), (InvalidState, thing))
            self.assertEqual(caught(parting_words, machine, 0, thing), (InvalidState, thing))
            self.assertEqual(caught(parting_words, machine, thing, 'x'), (InvalidState, thing))
        self.assertEqual(caught(parting_words, OLD, 0, 2), (InvalidState, 2))


if __name__ == '__main__':
    unittest.main()
