"""[29]: same_paper."""

import itertools
import unittest

from alwaysnew.samechecker import lets_same
from alwaysnew.samepapers import same_paper
from tests.examples import (FIRST, GAPS, LAST, LATE, LONE, NEW, OLD, THREE, changed_rows, is_new_kind, made_machine,
                            plain_parting_past, renumbered, small_machines)

QUIETS = ((), ('x',), ('no', 'yes'), ('go', 'never', 'x', 'y'))
AB = [OLD, NEW, FIRST, LAST, GAPS, *[made_machine(seed, states=2 + seed % 3, words=('', '', 'x'))
                                     for seed in range(10)]]


class SamePapersTest(unittest.TestCase):
    def check(self, one, other, quiet=()):
        paper = same_paper(one, other, quiet=quiet)
        same = plain_parting_past(one, other, quiet) is None
        self.assertEqual(paper[0], 'same' if same else 'apart')
        self.assertIs(lets_same(one, other, paper, quiet=quiet), same)
        self.assertTrue(is_new_kind(paper))

    def test_each_paper_is_accepted(self):
        for one, other, quiet in itertools.product(AB, AB, QUIETS):
            self.check(one, other, quiet)
        for one, other in itertools.product([LATE, LONE, *small_machines()], repeat=2):
            self.check(one, other)

    def test_machines_numbered_anew_and_changed(self):
        for machine in (OLD, NEW, FIRST, GAPS, THREE):
            for order in itertools.permutations(range(1, len(machine[1]))):
                self.check(machine, renumbered(machine, [0, *order]))
                self.check(renumbered(machine, [0, *order]), machine)
            for other in changed_rows(machine):
                self.check(machine, other)
                self.check(other, machine, ('x',))

    def test_by_name(self):
        paper = same_paper(quiet=('no', 'yes'), other=NEW, one=OLD)
        self.assertEqual(paper, ('same', ((0, 0), (0, 2), (1, 1), (1, 2))))
        self.assertIs(lets_same(OLD, NEW, same_paper(other=NEW, one=OLD)), False)
        self.assertRaises(TypeError, same_paper, OLD, NEW, ())

    def test_larger_machines(self):
        ring = (('a', 'b'), tuple((((state + 1) % 30, ''), ((state + 7) % 30, 'x' if state % 6 else ''))
                                  for state in range(30)))
        short = (('a', 'b'), tuple((((state + 1) % 6, ''), ((state + 1) % 6, 'x' if state else ''))
                                   for state in range(6)))
        self.check(ring, short)
        self.check(short, ring)
        self.check(ring, (('a', 'b'), short[1][1:] + short[1][:1]))


if __name__ == '__main__':
    unittest.main()
