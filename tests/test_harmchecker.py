"""[56] and [57]: lets_harm."""

import unittest

from alwaysnew.errors import InvalidPaper, InvalidState
from alwaysnew.harm import harm_of
from alwaysnew.harmchecker import lets_harm
from alwaysnew.harmpapers import harm_paper
from tests.changes import changes, harm_errors
from tests.examples import FIRST, LATE, NEW, ODD, OLD, SIXTY, caught, readings
from tests.harmexamples import STUCK, SWAP, cases, is_harm_paper, plain_harm

ROWS = ((0, 1, 2), (1, 2, 1))
MOST, WITHOUT = ('most', 1, ('a', 'a'), ROWS), ('without', 2, (), ('a',))


class LetsHarmTest(unittest.TestCase):
    def refuses(self, machine, one, states, thing, word, at, quiet=()):
        expected = (InvalidPaper, word, at)
        self.assertEqual(caught(lets_harm, machine, one, states, thing, quiet=quiet), expected, repr(thing)[:100])

    def test_the_examples(self):
        self.assertEqual([lets_harm(LATE, 0, (0, 1), MOST), lets_harm(FIRST, 1, (2,), WITHOUT)], [2, None])

    def test_by_name(self):
        self.assertEqual(lets_harm(thing=MOST, states=(0, 1), one=0, machine=LATE), 2)
        paper = ('most', 1, ('a', 'a'), ((0, 1, 1), (1, 2, 1)))
        self.assertEqual(lets_harm(quiet=('x',), thing=paper, states=(0, 1), one=0, machine=LATE), 1)
        self.assertRaises(TypeError, lets_harm, LATE, 0, (0, 1), MOST, ())

    def test_papers_of_the_program_and_changed_ones(self):
        words = {}
        for seed, (machine, states, quiet) in enumerate(cases(3)):
            for one in range(len(machine[1])):
                paper = harm_paper(machine, one, states, quiet=quiet)
                for thing in (paper, *changes(paper, seed, 4)):
                    error = next(harm_errors(machine, one, states, thing, quiet), None)
                    if error is None:
                        self.assertTrue(is_harm_paper(machine, one, states, thing, quiet))
                        found = lets_harm(machine, one, states, thing, quiet=quiet)
                        self.assertEqual(found, plain_harm(machine, one, states, quiet))
                        self.assertIn(type(found), (int, type(None)))
                    else:
                        self.refuses(machine, one, states, thing, *error, quiet)
                    words[error and error[0]] = words.get(error and error[0], 0) + 1
        self.assertEqual(set(words), {None, 'shape', 'other', 'letter', 'states', 'rise', 'next', 'less', 'missing',
                                      'above', 'ring'})
        self.assertGreater(min(words.values()), 10)

    def test_exactly_one_form(self):
        short = readings(('a', 'b'), 2)
        for machine in (NEW, FIRST, STUCK, SWAP):
            for one in range(3):
                harm = harm_of(machine, one, (0, 1))
                for other in (0, 1):
                    for reading in short:
                        for ring in short:
                            paper = ('without', other, reading, ring)
                            if is_harm_paper(machine, one, (0, 1), paper):
                                self.assertIsNone(harm)
                                self.assertIsNone(lets_harm(machine, one, (0, 1), paper))
                            else:
                                self.refuses(machine, one, (0, 1), paper, 'ring', -1)

    def test_shape(self):
        for thing in (*ODD, 0, '', 'most', (), ('most',), ('most', 1), ('most', 1, ('a',)), ('Most', 1, (), ()),
                      (*MOST, ()), list(MOST), ('without', 2, ()), (*WITHOUT, 0), list(WITHOUT), ('most', *WITHOUT[1:]),
                      ('without', *MOST[1:]),
                      *[(*paper[:at], wrong, *paper[at + 1:]) for paper in (MOST, WITHOUT) for at in range(1, 4)
                        for wrong in (None, True, -1, '1', [], 'a', ['a'], ('A',), ('',), (True,), ((0, 1),))],
                      *[('most', 1, (), rows) for rows in (((0, 1, 2, 3),), ((0, 1),), ([0, 1, 2],), ((0, 1, True),),
                                                           ((0, -1, 2),), ((False, 1, 2),), ((0, 1, None),), (1,),
                                                           ('abc',), (('a', 'b', 'c'),), [(0, 1, 2)])]):
            self.refuses(LATE, 0, (0, 1), thing, 'shape', -1)
            self.refuses(FIRST, 1, (2,), thing, 'shape', -1)

    def test_other(self):
        for other in (2, 3, SIXTY, 10 ** 80):
            self.refuses(LATE, 0, (0, 1), ('most', other, ('a', 'a'), ROWS), 'other', -1)
            self.refuses(LATE, 2, (0, 1), ('without', other, ('zz',), ()), 'other', -1)
        self.refuses(LATE, 0, (1, 2), ('most', 0, ('zz',), ((3, 4, 5),)), 'other', -1)

    def test_letter(self):
        for wrong in ('b', 'zz', 'x', 'aa'):
            self.refuses(LATE, 0, (0, 1), ('most', 1, ('a', wrong), ROWS), 'letter', (0, 1))
            self.refuses(LATE, 0, (0, 1), ('most', 1, (wrong, wrong), ((5, 4, 0),)), 'letter', (0, 0))
            self.refuses(LATE, 0, (0, 1), ('without', 1, ('a', 'a', wrong), (wrong,)), 'letter', (0, 2))
            self.refuses(LATE, 0, (0, 1), ('without', 1, ('a',), ('a', wrong)), 'letter', (1, 1))
            self.refuses(LATE, 0, (0, 1), ('without', 1, (), (wrong,)), 'letter', (1, 0))

    def test_states(self):
        for p, q in ((0, 0), (1, 0), (2, 2), (0, 3), (3, 4), (0, SIXTY), (SIXTY, 0)):
            self.refuses(LATE, 0, (0, 1), ('most', 1, (), ((p, q, 9),)), 'states', 0)
            self.refuses(LATE, 0, (0, 1), ('most', 1, (), ((0, 1, 0), (p, q, 9))), 'states', 1)

    def test_rise(self):
        self.refuses(LATE, 0, (0, 1), ('most', 1, (), ROWS[::-1]), 'rise', 1)
        self.refuses(LATE, 0, (0, 1), ('most', 1, (), ((0, 1, 2), (0, 1, 3), (1, 2, 1))), 'rise', 1)
        self.refuses(LATE, 0, (0, 1), ('most', 1, (), ((0, 1, 2), (0, 1, 2), (2, 1, 1))), 'rise', 1)
        self.refuses(LATE, 0, (0, 1), ('most', 1, (), ((1, 0, 2), (0, 1, 2))), 'states', 0)

    def test_next(self):
        self.refuses(LATE, 0, (0, 1), ('most', 1, ('a', 'a'), ((0, 1, 2),)), 'next', (0, 0))
        self.refuses(LATE, 0, (0, 1), ('most', 1, ('a', 'a'), ((0, 1, 0), (0, 2, 2))), 'next', (0, 0))
        # a leads 0 and 1 to themselves, exchanged, b to equal states.
        self.refuses(NEW, 0, (1,), ('most', 1, ('b',), ((0, 2, 1),)), 'next', (0, 0))
        self.assertEqual(lets_harm(NEW, 0, (1,), ('most', 1, ('b',), ((0, 1, 1),))), 1)
        self.refuses(FIRST, 0, (1, 2), ('most', 1, ('b',), ((0, 1, 9),)), 'next', (0, 1))

    def test_less(self):
        self.refuses(LATE, 0, (0, 1), ('most', 1, ('a', 'a'), ((0, 1, 1), (1, 2, 1))), 'less', (0, 0))
        self.refuses(LATE, 0, (0, 1), ('most', 1, ('a', 'a'), ((0, 1, 2), (1, 2, 0))), 'less', (1, 0))
        self.refuses(LATE, 0, (0, 1), ('most', 1, ('a', 'a'), ((0, 1, 2), (1, 2, 2))), 'less', (0, 0))
        self.refuses(NEW, 0, (1,), ('most', 1, ('b',), ((0, 1, 0),)), 'less', (0, 1))
        # A wrong word of a pair that is led to itself: no number is enough.
        for number in (0, 1, 5, SIXTY):
            self.refuses(FIRST, 1, (2,), ('most', 2, ('a',), ((1, 2, number),)), 'less', (0, 0))
        # Both checks of a letter come before those of the next one.
        self.refuses(FIRST, 0, (1, 2), ('most', 1, ('b',), ((0, 1, 0),)), 'less', (0, 0))

    def test_greater_numbers_than_needed(self):
        self.assertEqual(lets_harm(LATE, 0, (0, 1), ('most', 1, ('a', 'a'), (*ROWS[:1], (0, 2, 9), *ROWS[1:]))), 2)
        self.refuses(LATE, 0, (0, 1), ('most', 1, ('a', 'a'), ((0, 1, 3), (1, 2, 2))), 'above', 1)
        self.assertEqual(lets_harm(LATE, 2, (1,), ('most', 1, ('a', 'a'), ((1, 2, 1),))), 1)

    def test_missing(self):
        self.refuses(LATE, 0, (0, 1), ('most', 1, ('a', 'a'), ()), 'missing', 1)
        self.refuses(LATE, 0, (0, 1), ('most', 1, ('a', 'a'), ROWS[1:]), 'missing', 1)
        self.refuses(LATE, 0, (0, 1, 2), MOST, 'missing', 2)
        self.refuses(LATE, 2, (0, 1), ('most', 1, ('a',), ROWS), 'missing', 0)
        self.refuses(LATE, 0, (1, 2), ('most', 1, (), ROWS), 'above', 0)
        # The row of a pair is needed even if both states are alike.
        self.refuses(OLD, 0, (0, 1), ('most', 0, (), ()), 'missing', 1)
        self.assertEqual(lets_harm(OLD, 0, (0, 1), ('most', 0, (), ((0, 1, 0),))), 0)
        self.assertEqual(lets_harm(OLD, 0, (0,), ('most', 0, ('a', 'b'), ())), 0)

    def test_above(self):
        for reading in ((), ('a',)):
            self.refuses(LATE, 0, (0, 1), ('most', 1, reading, ROWS), 'above', 1)
        self.refuses(LATE, 0, (0, 1), ('most', 0, ('a', 'a'), ROWS), 'above', 1)
        self.refuses(LATE, 0, (0, 1), MOST, 'above', 1, ('x',))
        self.assertEqual(lets_harm(LATE, 0, (0, 1), ('most', 1, ('a',) * 5, ROWS)), 2)

    def test_ring(self):
        for ring in ((), ('b', 'a')):
            self.refuses(SWAP, 0, (1,), ('without', 1, (), ring + ('a',)), 'ring', -1)
        self.refuses(FIRST, 1, (2,), ('without', 2, (), ()), 'ring', -1)
        self.refuses(FIRST, 0, (2,), ('without', 2, (), ('a',)), 'ring', -1)
        self.refuses(FIRST, 0, (2,), ('without', 2, ('b',), ('a',)), 'ring', -1)
        self.assertIsNone(lets_harm(FIRST, 0, (2,), ('without', 2, ('a',), ('a', 'b'))))
        # Both states come back, and not only one of them, or one to the other.
        self.refuses(SWAP, 0, (1,), ('without', 1, (), ('b',)), 'ring', -1)
        self.assertIsNone(lets_harm(SWAP, 0, (1,), ('without', 1, (), ('b', 'b'))))
        # They come back, but no word is wrong.
        self.refuses(SWAP, 0, (1,), ('without', 1, (), ('a', 'a')), 'ring', -1)
        self.refuses(FIRST, 1, (2,), WITHOUT, 'ring', -1, ('x', 'y'))
        self.assertIsNone(lets_harm(FIRST, 1, (2,), WITHOUT, quiet=('never', 'x')))
        self.refuses(FIRST, 1, (1, 2), ('without', 1, (), ('a',)), 'ring', -1)

    def test_states_that_are_none_come_first(self):
        papers = (None, (), MOST, WITHOUT, ('most', 9, ('zz',), ()))
        for one in (*ODD, 3, SIXTY, 10 ** 80, ''):
            for thing in papers:
                self.assertEqual(caught(lets_harm, LATE, one, (0, 9), thing), (InvalidState, one))
        for states, wrong in (((3,), 3), ((0, 1, 2, 3, 4), 3), ((1, SIXTY), SIXTY), ((2, 10 ** 80), 10 ** 80)):
            for thing in papers:
                self.assertEqual(caught(lets_harm, LATE, 0, states, thing), (InvalidState, wrong))


if __name__ == '__main__':
    unittest.main()
