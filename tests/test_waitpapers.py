"""[48]: wait_paper."""

import unittest

from alwaysnew.errors import InvalidState
from alwaysnew.waitchecker import lets_wait
from alwaysnew.waiting import latest
from alwaysnew.waitpapers import wait_paper
from tests.examples import FIRST, LATE, NEW, SIXTY, THREE, caught, is_new_kind
from tests.harmexamples import WIDE, cases, falling_machine, is_wait_paper, plain_latest


class WaitPapersTest(unittest.TestCase):
    def test_each_set_of_states(self):
        counts = {'within': 0, 'forever': 0}
        for machine, states, quiet in cases():
            paper = wait_paper(machine, states, quiet=quiet)
            self.assertTrue(is_wait_paper(machine, states, paper, quiet))
            self.assertTrue(is_new_kind(paper))
            many = plain_latest(machine, states, quiet)
            self.assertEqual(paper[0], 'forever' if many is None else 'within')
            self.assertEqual(lets_wait(machine, states, paper, quiet=quiet), many)
            self.assertEqual(latest(machine, states, quiet=quiet), many)
            counts[paper[0]] += 1
        self.assertGreater(min(counts.values()), 500)

    def test_the_form(self):
        self.assertEqual(wait_paper(LATE, (0, 1)), ('within', (((0, 1), 2), ((1, 2), 1))))
        self.assertEqual(wait_paper(LATE, (2,)), ('within', ()))
        form, reading, ring = wait_paper(NEW, (0, 2))
        self.assertEqual((form, set(reading) | set(ring)), ('forever', {'a'}))

    def test_a_set_that_is_led_to_itself_later(self):
        # Only after the first letter the set comes again.
        machine = (('a',), (((2, ''),), ((3, ''),), ((3, 'x'),), ((2, 'y'),)))
        paper = wait_paper(machine, (0, 1))
        self.assertEqual(paper[1], ('a',))
        self.assertTrue(is_wait_paper(machine, (0, 1), paper))
        # The set, not each state of it, is led to itself.
        self.assertEqual(paper[2], ('a',))

    def test_quiet_words(self):
        self.assertEqual(wait_paper(NEW, (0, 2), quiet=('no', 'yes')), ('within', ()))
        self.assertEqual(wait_paper(NEW, (0, 2), quiet=('no', 'z'))[0], 'forever')
        self.assertEqual(wait_paper(LATE, (0, 1), quiet=('x', 'y')), ('within', ()))
        self.assertEqual(wait_paper(FIRST, (0, 1, 2), quiet=('x',))[0], 'forever')

    def test_at_the_limits(self):
        every = (0, 1, 2, 3, 4)
        for machine in (WIDE, falling_machine(3, 5, THREE[0], ('p', 'q', 'r', 's', ''))):
            for quiet in ((), ('p', 'q'), ('p', 'q', 'r', 's')):
                paper = wait_paper(machine, every, quiet=quiet)
                self.assertTrue(is_wait_paper(machine, every, paper, quiet))

    def test_errors(self):
        for states, wrong in (((3,), 3), ((0, 1, 2, 3, 4), 3), ((1, SIXTY), SIXTY), ((2, 10 ** 80), 10 ** 80)):
            self.assertEqual(caught(wait_paper, NEW, states), (InvalidState, wrong))
            self.assertEqual(caught(wait_paper, NEW, states, quiet=('no', 'yes')), (InvalidState, wrong))

    def test_by_name(self):
        self.assertEqual(wait_paper(states=(0, 1), machine=LATE), wait_paper(LATE, (0, 1), quiet=()))
        self.assertEqual(wait_paper(quiet=('x', 'y'), states=(0, 1), machine=LATE), ('within', ()))
        self.assertRaises(TypeError, wait_paper, LATE, (0, 1), ())


if __name__ == '__main__':
    unittest.main()
