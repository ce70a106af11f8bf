"""[42]: tail_paper."""

import itertools
import unittest

from alwaysnew.errors import InvalidKnowledge
from alwaysnew.tailchecker import lets_tail
from alwaysnew.tailpapers import tail_paper
from alwaysnew.tails import least_tail
from tests.examples import ALL, FIRST, LAST, LATE, NEW, OLD, THREE, caught, is_new_kind, plain_run
from tests.tailexamples import FLIP, SILENT, TWO, is_tail_paper, machine_pairs, plain_least_tail


class TailPapersTest(unittest.TestCase):
    def check(self, old, new, quiet=()):
        paper = tail_paper(old, new, quiet=quiet)
        least = plain_least_tail(old, new, quiet)
        self.assertEqual(paper[0], 'never' if least is None else 'enough')
        self.assertTrue(is_tail_paper(old, new, paper, quiet))
        self.assertTrue(is_new_kind(paper))
        self.assertEqual(lets_tail(old, new, paper, quiet=quiet), least)
        self.assertEqual(least_tail(old, new, quiet=quiet), least)
        return paper

    def test_each_paper(self):
        forms = []
        for (old, new), quiet in itertools.product(machine_pairs(), ((), ('x',), ('no',), ('go', 'never', 'no', 'yes'))):
            forms.append(self.check(old, new, quiet)[0])
        self.assertGreater(min(forms.count('enough'), forms.count('never')), 50)

    def test_rings_that_exchange_the_two_standings(self):
        for old, new in ((SILENT, FLIP), (SILENT, (('a', 'b'), (((1, ''), (0, 'x')), ((0, ''), (1, 'y')))))):
            paper = self.check(old, new)
            self.assertEqual(len(paper[3]), 2)
            self.assertEqual(plain_run(new, paper[3])[0], 0)
            self.assertEqual(plain_run(new, paper[3], 1)[0], 1)

    def test_a_ring_and_a_rest_of_several_letters(self):
        # From 1 and 2 the letters a, b lead back, and b, a to states 5 and 6, which are one state of the old machine.
        ways = ((1, 2), (8, 3), (9, 4), (5, 7), (6, 7), (7, 7), (7, 7), (7, 7), (7, 1), (7, 2))
        words = {5: 'x', 6: 'y'}
        new = (('a', 'b'), tuple(((one, words.get(k, '')), (other, '')) for k, (one, other) in enumerate(ways)))
        old = (('a', 'b'), tuple(((5 if one == 6 else one, ''), (other, '')) for one, other in ways))
        paper = self.check(old, new)
        self.assertEqual((sorted(paper[3]), paper[4][-2:]), (['a', 'b'], ('b', 'a')))

    def test_a_rest_behind_the_ring(self):
        # After the ring of letter a, letter b makes the old states equal.
        old = (('a', 'b'), (((1, ''), (2, '')), ((1, ''), (2, '')), ((2, ''), (2, ''))))
        new = (('a', 'b'), (((1, ''), (0, '')), ((1, 'x'), (1, 'x'))))
        self.assertIsNone(plain_least_tail(old, new))
        self.check(old, new)
        self.check(old, FIRST)

    def test_no_pairs(self):
        self.assertEqual(tail_paper(SILENT, SILENT), ('enough', ()))
        self.assertEqual(lets_tail(SILENT, SILENT, ('enough', ())), 0)

    def test_by_name(self):
        self.assertEqual(tail_paper(new=LAST, old=OLD), tail_paper(OLD, LAST, quiet=()))
        self.assertEqual(tail_paper(quiet=('no', 'yes'), new=NEW, old=OLD)[0], 'enough')
        self.assertEqual(tail_paper(OLD, NEW, quiet=('no',))[0], 'never')
        self.assertRaises(TypeError, tail_paper, OLD, NEW, ())

    def test_machines_with_other_letters(self):
        for old, new in ((OLD, LATE), (LATE, OLD), (OLD, THREE), (TWO, ALL)):
            self.assertEqual(caught(tail_paper, old, new), (InvalidKnowledge, 'letters', 1))
            self.assertEqual(caught(tail_paper, old, new, quiet=('x',)), (InvalidKnowledge, 'letters', 1))


if __name__ == '__main__':
    unittest.main()
