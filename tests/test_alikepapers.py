"""[25] and [26]: alike_paper."""

import itertools
import unittest

from alwaysnew.alikechecker import lets_alike
from alwaysnew.alikeness import are_alike
from alwaysnew.alikepapers import alike_paper
from alwaysnew.errors import InvalidState
from tests.examples import MACHINES, NEW, ODD, OLD, caught, is_new_kind, made_machine, plain_parting, small_machines

MADE = [made_machine(seed, states=2 + seed % 4, words=('', '', 'x')) for seed in range(40)] + small_machines()


class AlikePapersTest(unittest.TestCase):
    def test_each_paper_is_accepted(self):
        for machine in (*MACHINES, *MADE):
            states = range(len(machine[1]))
            for one, other in itertools.product(states, states):
                for quiet in ((), ('x',), ('no', 'yes'), ('go', 'never', 'x', 'y')):
                    paper = alike_paper(machine, one, other, quiet=quiet)
                    accepted = lets_alike(machine, one, other, paper, quiet=quiet)
                    self.assertIs(accepted, are_alike(machine, one, other, quiet=quiet))
                    self.assertIs(accepted, plain_parting(machine, one, other, quiet) is None)
                    self.assertEqual(paper[0], 'alike' if accepted else 'apart')
                    self.assertTrue(is_new_kind(paper))

    def test_by_name(self):
        self.assertEqual(alike_paper(OLD, 1, 0), ('alike', ((0, 1),)))
        self.assertEqual(alike_paper(OLD, 1, 1), ('alike', ()))
        paper = alike_paper(quiet=('no',), other=2, one=0, machine=NEW)
        self.assertIs(lets_alike(NEW, 0, 2, paper, quiet=('no',)), False)
        paper = alike_paper(other=2, quiet=('no', 'yes'), one=0, machine=NEW)
        self.assertIs(lets_alike(NEW, 0, 2, paper, quiet=('no', 'yes')), True)
        self.assertRaises(TypeError, alike_paper, OLD, 0, 1, ())

    def test_states_that_are_none(self):
        for thing in (*ODD, 3, '', 'a'):
            self.assertEqual(caught(alike_paper, NEW, thing, 0), (InvalidState, thing))
            self.assertEqual(caught(alike_paper, NEW, 0, thing), (InvalidState, thing))
            self.assertEqual(caught(alike_paper, NEW, thing, 77), (InvalidState, thing))

    def test_a_large_machine(self):
        ring = (('a', 'b'), tuple((((state + 1) % 60, ''), ((state + 7) % 60, 'x' if state % 6 else ''))
                                  for state in range(60)))
        for one, other in ((0, 6), (6, 0), (3, 57), (0, 3), (1, 59)):
            paper = alike_paper(ring, one, other)
            self.assertIs(lets_alike(ring, one, other, paper), (one - other) % 6 == 0)


if __name__ == '__main__':
    unittest.main()
