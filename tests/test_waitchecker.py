"""[49] and [50]: lets_wait."""

import unittest

from alwaysnew.errors import InvalidPaper, InvalidState
from alwaysnew.waitchecker import lets_wait
from alwaysnew.waitpapers import wait_paper
from tests.changes import changes, wait_errors
from tests.examples import FIRST, LATE, NEW, ODD, OLD, SIXTY, caught, readings
from tests.harmexamples import STUCK, cases, is_wait_paper, plain_latest

ROWS = (((0, 1), 2), ((1, 2), 1))
WITHIN, FOREVER = ('within', ROWS), ('forever', (), ('a', 'a'))
# Each of the states 0 to 3 leads to the next one; the last two say other words.
SLOW = (('a', 'b'), (((1, ''), (1, '')), ((2, ''), (1, '')), ((3, ''), (3, '')), ((3, 'x'), (4, '')),
                     ((4, ''), (4, ''))))


class WaitTest(unittest.TestCase):
    def refuses(self, machine, states, thing, word, at, quiet=()):
        expected = (InvalidPaper, word, at)
        self.assertEqual(caught(lets_wait, machine, states, thing, quiet=quiet), expected, repr(thing)[:100])

    def test_the_examples(self):
        self.assertEqual([lets_wait(NEW, (0, 2), FOREVER), lets_wait(LATE, (0, 1), WITHIN)], [None, 2])

    def test_by_name(self):
        self.assertEqual(lets_wait(thing=WITHIN, states=(0, 1), machine=LATE), 2)
        self.assertEqual(lets_wait(quiet=('x', 'y'), thing=('within', ()), states=(0, 1), machine=LATE), 0)
        self.assertRaises(TypeError, lets_wait, LATE, (0, 1), WITHIN, ())

    def test_papers_of_the_program_and_changed_ones(self):
        words = {}
        for seed, (machine, states, quiet) in enumerate(cases(2)):
            paper = wait_paper(machine, states, quiet=quiet)
            for thing in (paper, *changes(paper, seed, 7)):
                error = next(wait_errors(machine, states, thing, quiet), None)
                if error is None:
                    self.assertTrue(is_wait_paper(machine, states, thing, quiet))
                    found = lets_wait(machine, states, thing, quiet=quiet)
                    self.assertEqual(found, plain_latest(machine, states, quiet))
                    self.assertIn(type(found), (int, type(None)))
                else:
                    self.refuses(machine, states, thing, *error, quiet)
                words[error and error[0]] = words.get(error and error[0], 0) + 1
        self.assertEqual(set(words), {None, 'shape', 'states', 'rise', 'next', 'number', 'missing', 'letter', 'ring',
                                      'ready'})
        self.assertGreater(min(words.values()), 10)

    def test_exactly_one_form(self):
        short = readings(('a', 'b'), 2)
        for machine in (NEW, FIRST, STUCK, OLD):
            for states in ((0,), (0, 1), (1,)):
                within = plain_latest(machine, states) is not None
                for reading in short:
                    for ring in short:
                        paper = ('forever', reading, ring)
                        if is_wait_paper(machine, states, paper):
                            self.assertFalse(within)
                            self.assertIsNone(lets_wait(machine, states, paper))
                        else:
                            self.assertIn(caught(lets_wait, machine, states, paper)[1], ('ring', 'ready'))

    def test_shape(self):
        row = ROWS[0]
        for thing in (*ODD, 0, '', 'within', (), ('within',), ('within', (), ()), ['within', ()], ('Within', ()),
                      ('within', []), ('within', None), ('within', [row]), ('within', (list(row),)),
                      ('within', (row[:1],)), ('within', ((*row, 0),)), ('within', (row, 1)),
                      ('within', (([0, 1], 2),)), ('within', ((0, 2),)), ('within', (((0, True), 2),)),
                      ('within', (((0, -1), 2),)), ('within', (((0, 1), True),)), ('within', (((0, 1), -1),)),
                      ('within', (((0, 1), None),)), ('within', (((0, '1'), 2),)), ('within', ((('a',), 2),)),
                      ('forever',), ('forever', ()), ('forever', (), (), ()), ['forever', (), ('a',)],
                      ('forever', 'a', ('a',)), ('forever', (), 'a'), ('forever', (), ['a']), ('forever', (1,), ('a',)),
                      ('forever', (), ('A',)), ('forever', (), ('',)), ('forever', (('a',),), ('a',)),
                      ('forever', None, ()), ('within', (), ('a',)), ('forever', ((0, 1), 2), ())):
            self.refuses(NEW, (0, 2), thing, 'shape', -1)
            self.refuses(LATE, (0, 1), thing, 'shape', -1)
            self.refuses(LATE, (2,), thing, 'shape', -1)

    def test_states(self):
        for known in ((), (1, 0), (0, 0), (0, 3), (3,), (0, 1, 1), (0, SIXTY), (0,), (2,), (1, 0, 2)):
            self.refuses(LATE, (0, 1), ('within', ((known, 1),)), 'states', 0)
            self.refuses(LATE, (0, 1), ('within', (((0, 1), 2), (known, 1))), 'states', 1)
        self.refuses(NEW, (0, 2), ('within', (((0, 2), 1),)), 'states', 0, ('no', 'yes'))
        self.refuses(LATE, (0, 1), ('within', (((0, 1), 2),)), 'states', 0, ('x', 'y'))

    def test_rise(self):
        self.refuses(LATE, (0, 1), ('within', ROWS[::-1]), 'rise', 1)
        self.refuses(LATE, (0, 1), ('within', (ROWS[0], ROWS[0])), 'rise', 1)
        # The sets rise, not the rows.
        self.refuses(LATE, (0, 1), ('within', (((0, 1), 1), ((0, 1), 2), ((1, 2), 1))), 'rise', 1)
        self.refuses(LATE, (0, 1), ('within', (ROWS[1], ROWS[0], ((2,), 1))), 'rise', 1)
        self.refuses(LATE, (0, 1), ('within', (((2,), 1), ROWS[1], ROWS[0])), 'states', 0)

    def test_next(self):
        self.refuses(LATE, (0, 1), ('within', (((0, 1), 2),)), 'next', (0, 0))
        self.refuses(LATE, (0, 1), ('within', (((0, 1), 1),)), 'next', (0, 0))
        self.refuses(LATE, (0, 1), ('within', (((0, 1), 2), ((0, 2), 2))), 'next', (0, 0))
        self.refuses(LATE, (0, 1), ('within', (((0, 2), 2), ((1, 2), 1))), 'missing', -1)
        # State 1 stays by b, and 0 comes to it: ready by b, but by a they come to 1 and 2.
        self.refuses(SLOW, (0, 1), ('within', (((0, 1), 2),)), 'next', (0, 0))
        self.refuses(SLOW, (1, 2), ('within', (((1, 2), 2), ((2, 3), 1))), 'next', (0, 1))

    def test_number(self):
        for number in (0, 1, 3, SIXTY):
            self.refuses(LATE, (0, 1), ('within', (((0, 1), number), ROWS[1])), 'number', 0)
        for number in (0, 2, 3):
            self.refuses(LATE, (1, 2), ('within', (((1, 2), number),)), 'number', 0)
        # All checks of a row come before those of the next one; the numbers are those of the rows.
        self.refuses(LATE, (0, 1), ('within', (((0, 1), 3), ((1, 2), 2))), 'number', 1)
        self.refuses(LATE, (0, 1), ('within', (((0, 1), 2), ((1, 2), 2))), 'number', 0)
        self.refuses(LATE, (0, 1), ('within', (((0, 1), 5), ((0, 2), 9))), 'next', (0, 0))
        # No number is right for a set that a letter leads to itself.
        for number in (0, 1, 2, 3):
            self.refuses(NEW, (0, 1), ('within', (((0, 1), number),)), 'number', 0)

    def test_the_greatest_number_counts(self):
        paper = wait_paper(SLOW, (2, 3))
        self.assertEqual(lets_wait(SLOW, (2, 3), paper), plain_latest(SLOW, (2, 3)))
        machine = (('a', 'b'), (((2, ''), (3, '')), ((2, ''), (4, '')), ((3, ''), (3, '')), ((5, 'x'), (5, 'x')),
                                ((5, 'y'), (5, 'y')), ((5, ''), (5, ''))))
        rows = (((0, 1), 2), ((3, 4), 1))
        self.assertEqual(lets_wait(machine, (0, 1), ('within', rows)), 2)
        self.refuses(machine, (0, 1), ('within', (((0, 1), 1), ((3, 4), 1))), 'number', 0)

    def test_missing(self):
        self.refuses(LATE, (0, 1), ('within', ()), 'missing', -1)
        self.refuses(LATE, (0, 1), ('within', ROWS[1:]), 'missing', -1)
        self.refuses(LATE, (0, 1, 2), WITHIN, 'missing', -1)
        self.refuses(NEW, (0, 2), ('within', ()), 'missing', -1, ('no',))

    def test_ready_states_and_rows_that_are_not_needed(self):
        self.assertEqual(lets_wait(LATE, (1,), WITHIN), 0)
        self.assertEqual(lets_wait(LATE, (2,), ('within', ROWS[1:])), 0)
        self.assertEqual(lets_wait(LATE, (1, 2), WITHIN), 1)
        self.assertEqual(lets_wait(LATE, (0, 1), ('within', (*ROWS[:1], ((0, 2), 2), *ROWS[1:]))), 2)
        self.assertEqual(lets_wait(LATE, (1,), ('within', ())), 0)

    def test_letter(self):
        for wrong in ('c', 'zz', 'no', 'ab'):
            for reading, ring, at in (((wrong,), ('a',), (0, 0)), (('a', wrong, wrong), (), (0, 1)),
                                      ((), (wrong,), (1, 0)), (('b',), ('a', 'b', wrong), (1, 2)),
                                      ((wrong,), (wrong,), (0, 0))):
                self.refuses(NEW, (0, 2), ('forever', reading, ring), 'letter', at)
                self.refuses(NEW, (2,), ('forever', reading, ring), 'letter', at)

    def test_ring(self):
        for ring in ((), ('a',), ('b',), ('a', 'b'), ('a', 'a', 'a')):
            self.refuses(NEW, (0, 2), ('forever', (), ring), 'ring', -1)
        self.refuses(NEW, (0, 2), ('forever', ('b',), ()), 'ring', -1)
        self.refuses(NEW, (2,), ('forever', (), ()), 'ring', -1)
        # A set may be led to itself although its states are exchanged.
        self.assertIsNone(lets_wait(NEW, (0, 1), ('forever', (), ('a',))))
        self.assertIsNone(lets_wait(NEW, (0, 2), ('forever', ('a',), ('a', 'a', 'a', 'a'))))

    def test_ready(self):
        self.refuses(NEW, (0, 2), ('forever', ('b',), ('a',)), 'ready', -1)
        self.refuses(NEW, (2,), ('forever', (), ('a',)), 'ready', -1)
        self.refuses(NEW, (0, 2), FOREVER, 'ready', -1, ('no', 'yes'))
        self.refuses(OLD, (0, 1), ('forever', (), ('a',)), 'ready', -1)
        self.assertIsNone(lets_wait(NEW, (0, 2), FOREVER, quiet=('never', 'no')))

    def test_states_that_are_none_come_first(self):
        for states, wrong in (((3,), 3), ((0, 1, 2, 3, 4), 3), ((1, SIXTY), SIXTY), ((2, 10 ** 80), 10 ** 80)):
            for thing in (None, (), WITHIN, FOREVER, ('forever', ('c',), ()), ('within', ((states, 0),))):
                self.assertEqual(caught(lets_wait, NEW, states, thing), (InvalidState, wrong))


if __name__ == '__main__':
    unittest.main()
