"""[60]: quiet_paper."""

import itertools
import unittest

from alwaysnew.errors import InvalidState
from alwaysnew.quietpapers import quiet_paper
from tests.examples import FIRST, LATE, NEW, OLD, SIXTY, THREE, caught, is_new_kind
from tests.harmexamples import (WIDE, falling_machine, harm_machines, is_quiet_paper, names_said, plain_least_quiet,
                                sets_of_states)


class QuietPapersTest(unittest.TestCase):
    def test_all_sets_of_words(self):
        counts = {True: 0, False: 0}
        for machine in harm_machines():
            names = sorted([*names_said(machine), 'unsaid'])
            sets = [words for many in range(len(names) + 1) for words in itertools.combinations(names, many)]
            for states in sets_of_states(machine)[::5]:
                for most in (0, 1, 2, 4):
                    least = plain_least_quiet(machine, states, most)
                    for words in sets:
                        paper = quiet_paper(machine, states, words, most=most)
                        self.assertEqual(paper is not None, words in least)
                        if paper is not None:
                            self.assertTrue(is_quiet_paper(machine, states, words, paper, most))
                            self.assertTrue(is_new_kind(paper))
                        counts[paper is not None] += 1
        self.assertGreater(min(counts.values()), 500)

    def test_words_that_are_not_one_of_the_sets(self):
        for words in ((), ('no',), ('yes',), ('maybe',), ('maybe', 'no', 'yes'), ('no', 'yes', 'z')):
            self.assertIsNone(quiet_paper(NEW, (0, 2), words))
        for words in ((), ('x', 'y'), ('z',), ('x', 'z')):
            self.assertIsNone(quiet_paper(LATE, (0, 1), words, most=1))
        self.assertIsNone(quiet_paper(OLD, (0, 1), ('a',)))

    def test_no_words(self):
        for machine, states, most in ((OLD, (0, 1), 0), (LATE, (0, 1), 2), (LATE, (0, 1), 60), (NEW, (2,), 0)):
            paper = quiet_paper(machine, states, (), most=most)
            self.assertTrue(is_quiet_paper(machine, states, (), paper, most))
            self.assertEqual(paper[2], ())

    def test_more_wrong_words_than_most(self):
        # Without a bound there are readings with sixty-one wrong words.
        for most in (0, 1, 2, 3, 10, 59, 60):
            paper = quiet_paper(FIRST, (1, 2), ('x', 'y'), most=most)
            self.assertTrue(is_quiet_paper(FIRST, (1, 2), ('x', 'y'), paper, most))

    def test_at_the_limits(self):
        every = (0, 1, 2, 3, 4)
        for machine in (WIDE, falling_machine(3, 5, THREE[0], ('p', 'q', 'r', 's', ''))):
            for most in (0, 1, 2, 3, 60):
                for words in plain_least_quiet(machine, every, most):
                    paper = quiet_paper(machine, every, words, most=most)
                    self.assertTrue(is_quiet_paper(machine, every, words, paper, most))

    def test_errors(self):
        for states, wrong in (((3,), 3), ((0, 1, 2, 3, 4), 3), ((1, SIXTY), SIXTY), ((2, 10 ** 80), 10 ** 80)):
            for words in ((), ('no', 'yes'), ('z',)):
                self.assertEqual(caught(quiet_paper, NEW, states, words), (InvalidState, wrong))
                self.assertEqual(caught(quiet_paper, NEW, states, words, most=3), (InvalidState, wrong))

    def test_by_name(self):
        paper = quiet_paper(words=('no', 'yes'), states=(0, 2), machine=NEW)
        self.assertTrue(is_quiet_paper(NEW, (0, 2), ('no', 'yes'), paper))
        paper = quiet_paper(most=1, words=('x',), states=(0, 1), machine=LATE)
        self.assertTrue(is_quiet_paper(LATE, (0, 1), ('x',), paper, 1))
        self.assertRaises(TypeError, quiet_paper, LATE, (0, 1), ('x',), 1)


if __name__ == '__main__':
    unittest.main()
