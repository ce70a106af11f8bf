"""[56] and [57]: harm_paper."""

import unittest

from alwaysnew.errors import InvalidState
from alwaysnew.harm import harm_of
from alwaysnew.harmpapers import harm_paper
from tests.examples import FIRST, LATE, NEW, ODD, SIXTY, THREE, caught, is_new_kind
from tests.harmexamples import (STUCK, SWAP, WIDE, cases, falling_machine, is_harm_paper, plain_harm, stated_harm)


class HarmPapersTest(unittest.TestCase):
    def test_each_state_of_each_machine(self):
        counts = {'most': 0, 'without': 0}
        for machine, states, quiet in cases(3):
            for one in range(len(machine[1])):
                paper = harm_paper(machine, one, states, quiet=quiet)
                self.assertTrue(is_harm_paper(machine, one, states, paper, quiet))
                self.assertTrue(is_new_kind(paper))
                harm = plain_harm(machine, one, states, quiet)
                self.assertEqual(paper[0], 'without' if harm is None else 'most')
                self.assertEqual(stated_harm(machine, one, paper, quiet), harm)
                self.assertEqual(harm_of(machine, one, states, quiet=quiet), harm)
                counts[paper[0]] += 1
        self.assertGreater(min(counts.values()), 500)

    def test_the_form(self):
        form, other, reading, rows = harm_paper(LATE, 0, (0, 1))
        self.assertEqual((form, other, len(reading)), ('most', 1, 2))
        self.assertIn((0, 1, 2), rows)
        form, other, reading, ring = harm_paper(FIRST, 1, (2,))
        self.assertEqual((form, other), ('without', 2))
        self.assertNotEqual(ring, ())

    def test_alike_states(self):
        self.assertEqual(harm_paper(LATE, 1, (1,))[:3], ('most', 1, ()))
        self.assertTrue(is_harm_paper(LATE, 1, (1,), harm_paper(LATE, 1, (1,))))
        self.assertEqual(harm_paper(NEW, 0, (1, 2), quiet=('no', 'yes'))[2], ())

    def test_a_ring_that_exchanges_the_two_states(self):
        for one, other in ((0, 1), (1, 0)):
            paper = harm_paper(SWAP, one, (other,))
            self.assertEqual(paper[0], 'without')
            self.assertTrue(is_harm_paper(SWAP, one, (other,), paper))

    def test_a_pair_that_leads_to_itself_without_a_wrong_word(self):
        paper = harm_paper(STUCK, 0, (0, 1))
        self.assertEqual(paper[:2], ('most', 1))
        self.assertEqual(stated_harm(STUCK, 0, paper), 1)

    def test_the_other_one_has_the_greatest_harm(self):
        self.assertEqual(harm_paper(LATE, 2, (0, 1))[1], 0)
        self.assertEqual(harm_paper(LATE, 0, (0, 1, 2))[0], 'most')
        self.assertEqual(harm_paper(FIRST, 1, (1, 2))[:2], ('without', 2))

    def test_quiet_words(self):
        for quiet, harm in (((), 2), (('x',), 1), (('x', 'y'), 0), (('never', 'x'), 1), (('z',), 2)):
            paper = harm_paper(LATE, 0, (0, 1), quiet=quiet)
            self.assertEqual(stated_harm(LATE, 0, paper, quiet), harm)
            self.assertTrue(is_harm_paper(LATE, 0, (0, 1), paper, quiet))
        self.assertEqual(harm_paper(FIRST, 1, (2,), quiet=('x', 'y'))[0], 'most')
        self.assertEqual(harm_paper(FIRST, 1, (2,), quiet=('x',))[0], 'without')

    def test_at_the_limits(self):
        every = (0, 1, 2, 3, 4)
        for machine in (WIDE, falling_machine(3, 5, THREE[0], ('p', 'q', 'r', 's', ''))):
            for one in every:
                for quiet in ((), ('p', 'q'), ('p', 'q', 'r', 's')):
                    paper = harm_paper(machine, one, every, quiet=quiet)
                    self.assertTrue(is_harm_paper(machine, one, every, paper, quiet))
                    self.assertEqual(stated_harm(machine, one, paper, quiet), plain_harm(machine, one, every, quiet))

    def test_errors(self):
        for thing in (*ODD, 3, 99, SIXTY, '', '0', (), (0,), []):
            for states in ((0, 2), (7,), (0, SIXTY)):
                self.assertEqual(caught(harm_paper, NEW, thing, states), (InvalidState, thing))
        for states, wrong in (((3,), 3), ((0, 1, 2, 3, 4), 3), ((1, SIXTY), SIXTY), ((2, 10 ** 80), 10 ** 80)):
            self.assertEqual(caught(harm_paper, NEW, 0, states), (InvalidState, wrong))

    def test_by_name(self):
        self.assertEqual(harm_paper(states=(0, 1), one=0, machine=LATE), harm_paper(LATE, 0, (0, 1), quiet=()))
        self.assertEqual(harm_paper(quiet=('x',), states=(0, 1), one=0, machine=LATE),
                         harm_paper(LATE, 0, (0, 1), quiet=('x',)))
        self.assertRaises(TypeError, harm_paper, LATE, 0, (0, 1), ())


if __name__ == '__main__':
    unittest.main()
