"""[42]: lets_tail."""

import itertools
import unittest

from alwaysnew.errors import InvalidKnowledge, InvalidPaper
from alwaysnew.tailchecker import lets_tail
from alwaysnew.tailpapers import tail_paper
from tests.examples import ALL, FIRST, LAST, LATE, NEW, ODD, OLD, SIXTY, THREE, caught, readings
from tests.tailexamples import BRIEF, FLIP, SILENT, TWO, is_tail_paper, machine_pairs, plain_least_tail

ROWS = (((0, 0), (0, 1), 0), ((1, 0), (1, 1), 0))
NEVER = ('never', (), ('b',), ('a', 'a'), (), ('b',))
X, Y, Z = (0, 0), (0, 1), (0, 2)


class TailTest(unittest.TestCase):
    def refuses(self, old, new, thing, word, at, quiet=()):
        expected = (InvalidPaper, word, at)
        self.assertEqual(caught(lets_tail, old, new, thing, quiet=quiet), expected, repr(thing)[:100])

    def test_the_examples(self):
        self.assertEqual(lets_tail(OLD, LAST, ('enough', ROWS)), 1)
        self.assertIsNone(lets_tail(OLD, NEW, NEVER))

    def test_by_name(self):
        self.assertEqual(lets_tail(thing=('enough', ROWS), new=LAST, old=OLD), 1)
        self.assertEqual(lets_tail(quiet=('no', 'yes'), thing=('enough', ()), new=NEW, old=OLD), 0)
        self.assertRaises(TypeError, lets_tail, OLD, LAST, ('enough', ROWS), ())

    def test_some_of_the_rows_and_other_ranks(self):
        accepted = 0
        for (old, new), quiet in itertools.product(machine_pairs(), ((), ('x',))):
            form, *rest = tail_paper(old, new, quiet=quiet)
            if form == 'never' or len(rest[0]) > 5:
                continue
            rows = rest[0]
            for many in range(len(rows) + 1):
                for chosen in itertools.combinations(rows, many):
                    changed = [chosen] + [(*chosen[:k], (*chosen[k][:2], rank), *chosen[k + 1:])
                                          for k in range(len(chosen)) for rank in (0, 1, 2)][:6]
                    for thing in changed:
                        paper = ('enough', tuple(thing))
                        if is_tail_paper(old, new, paper, quiet):
                            accepted += 1
                            self.assertEqual(lets_tail(old, new, paper, quiet=quiet),
                                             plain_least_tail(old, new, quiet))
                        else:
                            error = caught(lets_tail, old, new, paper, quiet=quiet)
                            self.assertIn(error[1], ('before', 'rank', 'bad'))
        self.assertGreater(accepted, 100)

    def test_all_short_papers_with_never(self):
        counts = {True: 0, False: 0}
        short = readings(('a', 'b'), 1)
        for old, new in ((OLD, NEW), (SILENT, FLIP), (LAST, FIRST), (OLD, FIRST), (SILENT, LAST)):
            rings = [*short, ('a', 'a'), ('a', 'b')]
            for one, other, ring, rest, reading in itertools.product(short, short, rings, short, short):
                paper = ('never', one, other, ring, rest, reading)
                right = is_tail_paper(old, new, paper)
                counts[right] += 1
                if right:
                    self.assertIsNone(lets_tail(old, new, paper))
                    self.assertIsNone(plain_least_tail(old, new))
                else:
                    self.assertIn(caught(lets_tail, old, new, paper)[1], ('ring', 'old', 'reading'))
        self.assertGreater(min(counts.values()), 20)

    def test_shape(self):
        row = ROWS[0]
        for thing in (*ODD, 0, '', 'enough', (), ('enough',), ('enough', (), ()), ['enough', ()], ('Enough', ()),
                      ('enough', []), ('enough', None), ('enough', [row]), ('enough', (list(row),)),
                      ('enough', (row[:2],)), ('enough', ((*row, 0),)), ('enough', (row, 1)),
                      ('enough', (((0, 0, 0), (0, 1), 0),)), ('enough', (((0, 0), (0,), 0),)),
                      ('enough', (((0, 0), (0, True), 0),)), ('enough', (((0, False), (0, 1), 0),)),
                      ('enough', (((0, 0), (0, 1), False),)), ('enough', (((0, 0), (0, 1), -1),)),
                      ('enough', (((0, 0), [0, 1], 0),)), ('enough', (((0, -1), (0, 1), 0),)),
                      ('enough', (((0, 0), (0, 1), None),)), ('enough', (((0, 0), (0, 1), '0'),)),
                      ('enough', ((('a', 'b'), (0, 1), 0),)), ('never',), ('never', (), (), (), ()),
                      ('never', (), (), (), (), (), ()), ['never', (), (), (), (), ()],
                      ('Never', (), (), (), (), ()), ('enough', (), (), (), (), ()), ('never', ()),
                      *[(*NEVER[:at], wrong, *NEVER[at + 1:]) for at in range(1, 6)
                        for wrong in (None, [], 'b', ('B',), ('',), (1,), (('b',),), ['b'])]):
            self.refuses(OLD, NEW, thing, 'shape', -1)
            self.refuses(OLD, LAST, thing, 'shape', -1)

    def test_pair(self):
        # The reached standings of (OLD, LAST) are all four; those of (OLD, FIRST) are not all.
        for rows, at in ((((X, X, 0),), 0), (((Y, X, 0),), 0), (((X, (0, 2), 0),), 0), (((X, (2, 0), 0),), 0),
                         ((ROWS[0], ROWS[0]), 1), ((ROWS[1], ROWS[0]), 1), ((ROWS[0], (X, Y, 1)), 1),
                         ((*ROWS, (X, (1, 1), 0)), 2), (((X, (0, SIXTY), 0),), 0), (((X, (0, 10 ** 80), 0),), 0),
                         ((ROWS[0], (Y, Y, 0), (X, X, 0)), 1)):
            self.refuses(OLD, LAST, ('enough', rows), 'pair', at)
            # The pairs come before ranks and before what is missing.
            wrong = tuple((*row[:2], 7) for row in rows)
            self.refuses(OLD, LAST, ('enough', wrong), 'pair', at)
        self.refuses(OLD, NEW, ('enough', (((0, 0), (0, 1), 0),)), 'pair', 0)
        self.refuses(OLD, NEW, ('enough', (((0, 0), (1, 0), 0),)), 'pair', 0)

    def test_before(self):
        # The first letter leads to the second one of these pairs, and that to the third and fourth.
        rows = tail_paper(SILENT, BRIEF)[1]
        self.assertTrue(is_tail_paper(SILENT, BRIEF, ('enough', rows)))
        pairs = [row[:2] for row in rows]
        self.assertEqual(pairs[0], (X, Y))
        self.assertIn((Y, Z), pairs)
        self.refuses(SILENT, BRIEF, ('enough', (((0, 1), (0, 2), 0), ((0, 3), (0, 4), 1))), 'bad', (X, Y))
        self.refuses(SILENT, BRIEF, ('enough', (((0, 3), (0, 4), 0),)), 'before', 0)
        self.refuses(SILENT, BRIEF, ('enough', (((0, 3), (0, 4), 1),)), 'before', 0)
        self.refuses(SILENT, BRIEF, ('enough', (((0, 1), (0, 2), 0), ((0, 3), (0, 5), 2))), 'before', 1)

    def test_rank(self):
        for rank in (1, 2, SIXTY, 10 ** 80):
            self.refuses(OLD, LAST, ('enough', (ROWS[0], (*ROWS[1][:2], rank))), 'rank', 1)
            self.refuses(OLD, LAST, ('enough', ((*ROWS[0][:2], rank), ROWS[1])), 'rank', 0)
        rows = (((0, 1), (0, 2), 0), ((0, 3), (0, 4), 1))
        for rank in (0, 2, 3):
            self.refuses(SILENT, BRIEF, ('enough', (rows[0], ((0, 3), (0, 4), rank))), 'rank', 1)
        # By the ranks that stand in the rows, also if they are wrong; but the first wrong one counts.
        self.refuses(SILENT, BRIEF, ('enough', (((0, 1), (0, 2), 1), ((0, 3), (0, 4), 2))), 'rank', 0)

    def test_ranks_of_rows_that_come_later(self):
        # State 2 and 3 lead to 0 and 1 here: the first row has its rank from the second one.
        new = (('a', 'b'), (((2, ''), (3, '')), ((4, 'x'), (4, '')), ((1, ''), (1, '')), ((5, ''), (5, '')),
                            ((4, ''), (4, '')), ((4, ''), (4, ''))))
        form, rows = tail_paper(SILENT, new)
        self.assertEqual((form, lets_tail(SILENT, new, (form, rows))), ('enough', plain_least_tail(SILENT, new)))
        ranks = {row[:2]: row[2] for row in rows}
        self.assertEqual((ranks[Y, (0, 5)], ranks[Z, (0, 3)]), (1, 0))
        for k, row in enumerate(rows):
            for rank in {0, 1, 2, 3} - {row[2]}:
                wrong = (*rows[:k], (*row[:2], rank), *rows[k + 1:])
                found = caught(lets_tail, SILENT, new, ('enough', wrong))
                self.assertEqual(found[1], 'rank')
                self.assertLessEqual(found[2], k)

    def test_both_checks_of_a_row_come_before_those_of_the_next(self):
        rows = (((0, 1), (0, 2), 5), ((0, 3), (0, 5), 9))
        self.refuses(SILENT, BRIEF, ('enough', rows), 'rank', 0)
        self.refuses(SILENT, BRIEF, ('enough', (((0, 1), (0, 2), 0), ((0, 3), (0, 5), 9))), 'before', 1)
        self.refuses(SILENT, BRIEF, ('enough', (((0, 3), (0, 5), 0), ((0, 1), (0, 2), 5))), 'pair', 1)

    def test_a_pair_that_a_letter_leads_to_itself(self):
        for rank in (0, 1, 2, 3):
            self.refuses(SILENT, FLIP, ('enough', ((X, Y, rank),)), 'rank', 0)
            self.refuses(OLD, FIRST, ('enough', (((0, 1), (0, 2), rank),)), 'before', 0)
        self.refuses(SILENT, FIRST, ('enough', ((Y, Z, 0),)), 'before', 0)
        self.refuses(SILENT, FIRST, ('enough', ((X, Y, 0), (X, Z, 0), (Y, Z, 1))), 'rank', 2)
        for rank in (0, 1, 2, 3):
            self.refuses(SILENT, FIRST, ('enough', ((X, Y, 0), (X, Z, 0), (Y, Z, rank))), 'rank', 2)

    def test_bad(self):
        self.refuses(OLD, LAST, ('enough', ()), 'bad', ((0, 0), (0, 1)))
        self.refuses(OLD, LAST, ('enough', ROWS[:1]), 'bad', ((1, 0), (1, 1)))
        self.refuses(OLD, LAST, ('enough', ROWS[1:]), 'bad', ((0, 0), (0, 1)))
        self.refuses(OLD, NEW, ('enough', ()), 'bad', ((0, 0), (0, 2)))
        self.refuses(OLD, NEW, ('enough', ()), 'bad', ((0, 0), (0, 2)), ('no',))
        self.assertEqual(lets_tail(OLD, NEW, ('enough', ()), quiet=('maybe', 'no', 'yes')), 0)
        # Ranks come before what is bad.
        self.refuses(OLD, LAST, ('enough', ((*ROWS[0][:2], 1),)), 'rank', 0)

    def test_letters(self):
        for at in range(5):
            for wrong in (('c',), ('b', 'c'), ('zz', 'a'), ('no',)):
                parts = list(NEVER)
                parts[1 + at] = wrong
                self.refuses(OLD, NEW, tuple(parts), 'letters', at)
                # The first such one, and before all that follows.
                parts[3:4] = [()] if at < 2 else parts[3:4]
                parts[5] = ('zz',)
                self.refuses(OLD, NEW, tuple(parts), 'letters', at)

    def test_ring(self):
        for ring in ((), ('a',), ('b',), ('a', 'b'), ('a', 'a', 'a')):
            self.refuses(OLD, NEW, ('never', (), ('b',), ring, (), ('b',)), 'ring', -1)
        for ring in (('a', 'a'), ('a',) * 4):
            self.assertIsNone(lets_tail(OLD, NEW, ('never', (), ('b',), ring, (), ('b',))))
        # It leads only one of them back, or exchanges the two.
        self.refuses(OLD, NEW, ('never', (), ('b',), ('b',), (), ('b',)), 'ring', -1)
        self.refuses(OLD, NEW, ('never', ('b',), (), ('b',), (), ('b',)), 'ring', -1)
        self.refuses(SILENT, FLIP, ('never', (), ('a',), ('a',), (), ('a',)), 'ring', -1)
        self.assertIsNone(lets_tail(SILENT, FLIP, ('never', (), ('a',), ('a', 'b'), (), ('a',))))
        # Before the old states and the reading.
        self.refuses(OLD, NEW, ('never', (), ('a',), (), (), ()), 'ring', -1)

    def test_old(self):
        self.refuses(OLD, NEW, ('never', (), ('a',), ('a', 'a'), (), ('b',)), 'old', -1)
        self.refuses(OLD, NEW, ('never', (), ('a',), ('a', 'a'), ('b', 'a'), ()), 'old', -1)
        self.refuses(OLD, FIRST, ('never', ('a',), ('b',), ('b', 'b'), ('a',), ('a',)), 'old', -1)
        self.assertIsNone(lets_tail(OLD, FIRST, ('never', ('a', 'a'), ('b',), ('b', 'b'), ('a',), ('a',))))

    def test_reading(self):
        for reading in ((), ('a',), ('b', 'b'), ('b', 'a')):
            self.refuses(OLD, NEW, ('never', (), ('b',), ('a', 'a'), (), reading), 'reading', -1)
        self.refuses(OLD, NEW, NEVER, 'reading', -1, ('no',))
        self.assertIsNone(lets_tail(OLD, NEW, ('never', (), ('b',), ('a', 'a'), (), ('a', 'b')), quiet=('no',)))
        self.refuses(OLD, NEW, ('never', (), ('b',), ('a', 'a'), ('b',), ('b',)), 'reading', -1)
        self.refuses(OLD, NEW, ('never', ('a',), ('a',), ('a', 'a'), (), ('b',)), 'reading', -1)
        self.assertIsNone(lets_tail(OLD, NEW, ('never', (), ('b',), ('a', 'a'), ('a',), ('b',))))

    def test_machines_with_other_letters_come_first(self):
        for old, new in ((OLD, LATE), (LATE, OLD), (OLD, THREE), (TWO, ALL)):
            for thing in (None, ('enough', ()), NEVER, ('never', ('zz',), (), (), (), ())):
                self.assertEqual(caught(lets_tail, old, new, thing), (InvalidKnowledge, 'letters', 1))


if __name__ == '__main__':
    unittest.main()
