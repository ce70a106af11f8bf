"""[60]: lets_quiet."""

import itertools
import unittest

from alwaysnew.errors import InvalidPaper, InvalidState
from alwaysnew.quietchecker import lets_quiet
from alwaysnew.quietpapers import quiet_paper
from tests.changes import changes, quiet_errors
from tests.examples import FIRST, LATE, NEW, ODD, OLD, SIXTY, caught
from tests.harmexamples import harm_machines, is_quiet_paper, plain_least_quiet, sets_of_states

ROWS = ((0, 1, 1), (1, 2, 1))
PAPER = ('most', 1, ('a', 'a'), ROWS)
BARS = (((1, ('a', 'a')), (0, ('a', 'a')), (0, ('a', 'a'))),)
QUIET = (0, PAPER, BARS)


class LetsQuietTest(unittest.TestCase):
    def refuses(self, machine, states, words, thing, word, at, most=0):
        expected = (InvalidPaper, word, at)
        self.assertEqual(caught(lets_quiet, machine, states, words, thing, most=most), expected, repr(thing)[:100])

    def test_the_example(self):
        self.assertEqual(lets_quiet(LATE, (0, 1), ('x',), QUIET, most=1), 1)

    def test_by_name(self):
        self.assertEqual(lets_quiet(most=1, thing=QUIET, words=('x',), states=(0, 1), machine=LATE), 1)
        paper = quiet_paper(NEW, (0, 2), ('no', 'yes'))
        self.assertEqual(lets_quiet(thing=paper, words=('no', 'yes'), states=(0, 2), machine=NEW), 0)
        self.assertRaises(TypeError, lets_quiet, LATE, (0, 1), ('x',), QUIET, 1)

    def test_papers_of_the_program_and_changed_ones(self):
        words = {}
        for seed, machine in enumerate(harm_machines()):
            for states, most in itertools.product(sets_of_states(machine)[::4], (0, 1, 2)):
                for quiet in plain_least_quiet(machine, states, most):
                    paper = quiet_paper(machine, states, quiet, most=most)
                    for thing in (paper, *changes(paper, seed, 12)):
                        error = next(quiet_errors(machine, states, quiet, thing, most), None)
                        if error is None:
                            self.assertTrue(is_quiet_paper(machine, states, quiet, thing, most))
                            harm = lets_quiet(machine, states, quiet, thing, most=most)
                            self.assertLessEqual(harm, most)
                            self.assertIs(type(harm), int)
                        else:
                            self.refuses(machine, states, quiet, thing, *error, most)
                        words[error and error[0]] = words.get(error and error[0], 0) + 1
        self.assertEqual(set(words), {None, 'shape', 'state', 'harm', 'many', 'bar'})
        self.assertGreater(min(words.values()), 100)

    def test_papers_for_other_words(self):
        # What is accepted shows that the words are one of the least sets.
        for machine in harm_machines():
            for states, most in itertools.product(sets_of_states(machine)[1::7], (0, 1)):
                least = plain_least_quiet(machine, states, most)
                for words, other in itertools.product(((), ('x',), ('y',), ('x', 'y'), ('p', 'q')), least):
                    paper = quiet_paper(machine, states, other, most=most)
                    if words not in least:
                        self.assertEqual(caught(lets_quiet, machine, states, words, paper, most=most)[0], InvalidPaper)

    def test_shape(self):
        pair = (1, ('a',))
        for thing in (*ODD, 0, '', (), (0,), (0, PAPER), (*QUIET, 0), list(QUIET),
                      *[(wrong, PAPER, BARS) for wrong in (None, True, -1, '0', (0,), [])],
                      *[(0, PAPER, wrong) for wrong in (None, 1, 'a', [], [BARS[0]], (list(BARS[0]),), (1,), ('a',),
                                                        (pair,), ((1,),), ((list(pair),),), (((1,),),),
                                                        (((1, ('a',), 0),),), (((True, ('a',)),),), (((-1, ('a',)),),),
                                                        (((None, ('a',)),),), (((1, ['a']),),), (((1, 'a'),),),
                                                        (((1, ('A',)),),), (((1, (1,)),),), (((1, ('',)),),))]):
            self.refuses(LATE, (0, 1), ('x',), thing, 'shape', -1, 1)
            self.refuses(LATE, (0, 1), (), thing, 'shape', -1, 2)

    def test_state(self):
        for state in (3, 9, SIXTY, 10 ** 80):
            self.refuses(LATE, (0, 1), ('x',), (state, PAPER, BARS), 'state', -1, 1)
            self.refuses(LATE, (0, 1), ('x',), (state, None, ()), 'state', -1, 1)

    def test_harm(self):
        for thing in (*ODD, 0, '', (), PAPER[:3], ('most', 1, ('a', 'a'), ()), ('most', 2, ('a', 'a'), ROWS)):
            self.refuses(LATE, (0, 1), ('x',), (0, thing, BARS), 'harm', -1, 1)
            self.refuses(LATE, (0, 1), ('x',), (0, thing, ()), 'harm', -1, 1)
        # A right paper, but for another state, for other quiet words, of more harm, or without a bound.
        self.refuses(LATE, (0, 1), ('x',), (1, PAPER, BARS), 'harm', -1, 1)
        self.refuses(LATE, (0, 1), ('y',), (0, PAPER, BARS), 'harm', -1, 1)
        self.refuses(LATE, (0, 1), ('x',), QUIET, 'harm', -1, 0)
        self.refuses(LATE, (0, 1), ('x',), QUIET, 'harm', -1)
        for most in (0, 5, SIXTY):
            self.refuses(FIRST, (1, 2), (), (1, ('without', 2, (), ('a',)), ()), 'harm', -1, most)

    def test_many(self):
        for bars in ((), BARS * 2, (BARS[0][:2],), ((*BARS[0], (1, ('a',))),), ((),)):
            self.refuses(LATE, (0, 1), ('x',), (0, PAPER, bars), 'many', -1, 1)
        paper = ('most', 0, (), ((0, 1, 0), (1, 2, 0)))
        self.refuses(LATE, (0, 1), ('x', 'y'), (0, paper, (BARS[0], BARS[0][:2])), 'many', -1)
        self.refuses(LATE, (0, 1), ('x', 'y'), (0, paper, ((), BARS[0])), 'many', -1)
        # Before what stands in the bars.
        self.refuses(LATE, (0, 1), ('x',), (0, PAPER, (((9, ('zz',)),),)), 'many', -1, 1)

    def test_bar(self):
        for t in range(3):
            for wrong in ((2, ('a', 'a')), (3, ('a', 'a')), (SIXTY, ('a', 'a')), (1 - min(t, 1), ('a', 'zz')),
                          (1 - min(t, 1), ('b',)), (1 - min(t, 1), ()), (1 - min(t, 1), ('a',)), (min(t, 1), ())):
                bars = ((*BARS[0][:t], wrong, *BARS[0][t + 1:]),)
                self.refuses(LATE, (0, 1), ('x',), (0, PAPER, bars), 'bar', (0, t), 1)
        # The first such one.
        self.refuses(LATE, (0, 1), ('x',), (0, PAPER, (((1, ()),) * 3,)), 'bar', (0, 0), 1)
        self.refuses(LATE, (0, 1), ('x',), (0, PAPER, (BARS[0][:1] + ((1, ()),) * 2,)), 'bar', (0, 1), 1)

    def test_the_other_words_are_quiet_in_a_bar(self):
        harm = ('most', 0, (), ((0, 1, 0), (1, 2, 0)))
        # With y quiet alone x is wrong, with x quiet alone y is.
        bar = ((1, ('a', 'a')), (0, ('a', 'a')), (0, ('a', 'a', 'a')))
        self.assertEqual(lets_quiet(LATE, (0, 1), ('x', 'y'), (0, harm, (bar, bar))), 0)
        # From 0 and from 1 the first a says nothing and x; if x is quiet, no word is wrong.
        short = ((1, ('a',)), *bar[1:])
        self.refuses(LATE, (0, 1), ('x', 'y'), (0, harm, (bar, short)), 'bar', (1, 0))
        self.assertEqual(lets_quiet(LATE, (0, 1), ('x', 'y'), (0, harm, (short, bar))), 0)

    def test_words_that_nobody_says(self):
        # Leaving them out changes nothing: so no bar is right.
        for words in (('z',), ('maybe',)):
            paper = ('most', 0, (), ((0, 1, 0),))
            self.refuses(OLD, (0, 1), words, (0, paper, (((0, ()), (0, ())),)), 'bar', (0, 0))
            self.assertEqual(lets_quiet(OLD, (0, 1), (), (0, paper, ())), 0)

    def test_no_words(self):
        paper = ('most', 1, ('a', 'a'), ((0, 1, 2), (1, 2, 1)))
        for most in (2, 3, SIXTY, 10 ** 80):
            self.assertEqual(lets_quiet(LATE, (0, 1), (), (0, paper, ()), most=most), 2)
        self.refuses(LATE, (0, 1), (), (0, paper, ()), 'harm', -1, 1)
        self.refuses(LATE, (0, 1), (), (0, paper, BARS), 'many', -1, 2)

    def test_states_that_are_none_come_first(self):
        for states, wrong in (((3,), 3), ((0, 1, 2, 3, 4), 3), ((1, SIXTY), SIXTY), ((2, 10 ** 80), 10 ** 80)):
            for thing in (None, (), QUIET, (9, None, ())):
                self.assertEqual(caught(lets_quiet, LATE, states, ('x',), thing), (InvalidState, wrong))
                self.assertEqual(caught(lets_quiet, LATE, states, (), thing, most=3), (InvalidState, wrong))


if __name__ == '__main__':
    unittest.main()
