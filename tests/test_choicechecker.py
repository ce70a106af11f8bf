"""[59]: lets_choice."""

import unittest

from alwaysnew.choicechecker import lets_choice
from alwaysnew.choicepapers import choice_paper
from alwaysnew.choosing import sure_harm
from alwaysnew.errors import InvalidPaper, InvalidState
from tests.changes import changes, choice_errors
from tests.examples import FIRST, LATE, NEW, ODD, SIXTY, caught
from tests.harmexamples import cases, choice_harms, no_bound_last, plain_sure

# Harm papers of LATE: state 2 for itself, for 1 and 2, state 1 for 0 and 1; and one of FIRST without a bound.
NOTHING = ('most', 2, (), ())
ONE = ('most', 1, ('a',), ((1, 2, 1),))
TWO = ('most', 0, ('a', 'a'), ((0, 1, 2), (1, 2, 1)))
ENDLESS = ('without', 2, (), ('a',))
ROWS = ((0, (2,), (2, NOTHING)), (1, (1, 2), ()))


class LetsChoiceTest(unittest.TestCase):
    def refuses(self, machine, states, many, thing, word, at, quiet=()):
        expected = (InvalidPaper, word, at)
        self.assertEqual(caught(lets_choice, machine, states, many, thing, quiet=quiet), expected, repr(thing)[:100])

    def test_the_example(self):
        self.assertEqual(lets_choice(LATE, (1, 2), 1, ROWS), 0)

    def test_by_name(self):
        self.assertEqual(lets_choice(thing=ROWS, many=1, states=(1, 2), machine=LATE), 0)
        self.assertEqual(lets_choice(quiet=('x', 'y'), thing=((3, (0, 2), (0, ('most', 0, (), ((0, 1, 0), (0, 2, 0),
                                     (1, 2, 0))))),), many=3, states=(0, 2), machine=LATE), 0)
        self.assertRaises(TypeError, lets_choice, LATE, (1, 2), 1, ROWS, ())

    def test_papers_of_the_program_and_changed_ones(self):
        words = {}
        for seed, (machine, states, quiet) in enumerate(cases(6)):
            for many in range(4):
                paper = choice_paper(machine, states, many, quiet=quiet)
                sure = plain_sure(machine, states, many, quiet)
                self.assertEqual(lets_choice(machine, states, many, paper, quiet=quiet), sure)
                for thing in changes(paper, seed, 5):
                    error = next(choice_errors(machine, states, many, thing, quiet), None)
                    if error is None:
                        found = lets_choice(machine, states, many, thing, quiet=quiet)
                        self.assertEqual(found, choice_harms(machine, thing, quiet)[many, states])
                        self.assertIn(type(found), (int, type(None)))
                        # No accepted paper has a lesser harm.
                        self.assertGreaterEqual(no_bound_last(found), no_bound_last(sure))
                    else:
                        self.refuses(machine, states, many, thing, *error, quiet)
                    words[error and error[0]] = words.get(error and error[0], 0) + 1
        self.assertEqual(set(words) - {'left'}, {None, 'shape', 'states', 'rise', 'next', 'state', 'harm', 'missing'})
        self.assertGreater(min(words[word] for word in set(words) - {'left'}), 10)

    def test_many_letters(self):
        for machine, states, quiet in cases(11):
            for many in (34, SIXTY, 10 ** 80):
                paper = choice_paper(machine, states, many, quiet=quiet)
                self.assertEqual(lets_choice(machine, states, many, paper, quiet=quiet),
                                 sure_harm(machine, states, many, quiet=quiet))

    def test_shape(self):
        row = ROWS[1]
        for thing in (*[one for one in ODD if one != ()], 0, '', 'a', row, [row], list(ROWS), (row, 0), (list(row),),
                      (row[:2],), ((*row, ()),), ((True, (1, 2), ()),), ((-1, (1, 2), ()),), (('1', (1, 2), ()),),
                      ((1, [1, 2], ()),), ((1, 1, ()),), ((1, (1, True), ()),), ((1, (1, -2), ()),), ((1, ('a',), ()),),
                      ((1, (1, 2), []),), ((1, (1, 2), None),), ((1, (1, 2), 2),), ((1, (1, 2), (2,)),),
                      ((1, (1, 2), (2, ONE, 0)),), ((1, (1, 2), [2, ONE]),), ((1, (1, 2), (True, ONE)),),
                      ((1, (1, 2), (-1, ONE)),), ((1, (1, 2), ('2', ONE)),), ((1, (1, 2), ((2,), ONE)),),
                      ((1, (1, 2), ((), ())),), ((1, (1, 2), ''),)):
            self.refuses(LATE, (1, 2), 1, thing, 'shape', -1)

    def test_any_value_as_a_harm_paper_has_the_shape(self):
        for thing in (*ODD, '', (), 0, ('most', 2, (), ()), NOTHING[:3]):
            self.refuses(LATE, (1, 2), 0, ((0, (1, 2), (2, thing)),), 'harm', 0)

    def test_states(self):
        for known in ((), (2, 1), (1, 1), (1, 3), (3,), (SIXTY,), (2, 1, 0)):
            self.refuses(LATE, (1, 2), 1, ((1, known, ()),), 'states', 0)
            self.refuses(LATE, (1, 2), 1, ((0, (1, 2), (2, ONE)), (0, known, (7, None))), 'states', 1)

    def test_rise(self):
        live = (0, (1, 2), (2, ONE))
        self.refuses(LATE, (1, 2), 0, (live, live), 'rise', 1)
        self.refuses(LATE, (1, 2), 0, (live, (0, (1, 2), (1, ('most', 2, ('a',), ((1, 2, 1),))))), 'rise', 1)
        self.refuses(LATE, (1, 2), 1, ((1, (1, 2), (2, ONE)), (0, (2,), (2, NOTHING))), 'rise', 1)
        self.refuses(LATE, (1, 2), 0, (live, (0, (0, 1), (9, None))), 'rise', 1)
        # The rows behind may stand anywhere: so it is not the next row that is missing, but the order is wrong.
        self.refuses(LATE, (1, 2), 1, ROWS[::-1], 'rise', 1)

    def test_left(self):
        self.refuses(LATE, (1, 2), 0, ((0, (1, 2), ()),), 'left', 0)
        self.refuses(LATE, (1, 2), 0, ((0, (1, 2), ()), (0, (2,), (2, NOTHING))), 'left', 0)
        self.refuses(LATE, (2,), 0, ((0, (1, 2), (2, ONE)), (0, (2,), ())), 'left', 1)

    def test_next(self):
        self.refuses(LATE, (1, 2), 1, ROWS[1:], 'next', (0, 0))
        self.refuses(LATE, (1, 2), 2, ((0, (2,), (2, NOTHING)), (2, (1, 2), ())), 'next', (1, 0))
        live = ('most', 2, (), ())
        # b leads from 0 and 2 to 2, a to 1 and 2.
        self.refuses(NEW, (0, 2), 1, ((0, (2,), (2, live)), (1, (0, 2), ())), 'next', (1, 0))
        one = ('most', 2, ('b',), ((0, 2, 1), (1, 2, 1)))
        self.refuses(NEW, (0, 2), 1, ((0, (1, 2), (1, one)), (1, (0, 2), ())), 'next', (1, 1))
        self.assertEqual(lets_choice(NEW, (0, 2), 1, ((0, (1, 2), (1, one)), (0, (2,), (2, live)), (1, (0, 2), ()))), 1)

    def test_state(self):
        for state in (3, 9, SIXTY, 10 ** 80):
            self.refuses(LATE, (1, 2), 0, ((0, (1, 2), (state, ONE)),), 'state', 0)
            self.refuses(LATE, (1, 2), 1, (ROWS[0], (1, (1, 2), (state, None))), 'state', 1)

    def test_harm(self):
        self.refuses(LATE, (1, 2), 0, ((0, (1, 2), (2, NOTHING)),), 'harm', 0)
        self.refuses(LATE, (1, 2), 0, ((0, (1, 2), (0, ONE)),), 'harm', 0)
        self.refuses(LATE, (1, 2), 0, ((0, (1, 2), (2, ENDLESS)),), 'harm', 0)
        self.refuses(LATE, (1, 2), 0, ((0, (1, 2), (2, ONE)),), 'harm', 0, ('x', 'y'))
        self.refuses(LATE, (1, 2), 1, ((0, (2,), (2, NOTHING)), (1, (1, 2), (2, ('most', 2, ('a',), ())))), 'harm', 1)

    def test_missing(self):
        self.refuses(LATE, (1, 2), 1, (), 'missing', -1)
        self.refuses(LATE, (1, 2), 0, ROWS, 'missing', -1)
        self.refuses(LATE, (1, 2), 2, ROWS, 'missing', -1)
        self.refuses(LATE, (0, 1), 1, ROWS, 'missing', -1)
        self.assertEqual(lets_choice(LATE, (2,), 0, ROWS), 0)

    def test_rows_that_are_not_needed(self):
        rows = ((0, (1, 2), (2, ONE)), *ROWS, (3, (0, 1), (1, ('most', 0, ('a', 'a'), ((0, 1, 2), (1, 2, 1))))))
        rows = tuple(sorted(rows))
        self.assertEqual([lets_choice(LATE, states, many, rows) for states, many in
                          (((1, 2), 0), ((2,), 0), ((1, 2), 1), ((0, 1), 3))], [1, 0, 0, 2])

    def test_papers_that_wait_longer_than_is_good(self):
        # One waits although there is nothing to gain, or goes live although waiting were better.
        long = ((0, (2,), (2, NOTHING)), (1, (2,), ()), (2, (1, 2), ()))
        self.assertEqual(lets_choice(LATE, (1, 2), 2, long), 0)
        early = ((1, (1, 2), (2, ONE)), (2, (0, 1), ()))
        self.assertEqual(lets_choice(LATE, (0, 1), 2, early), 1)
        self.assertEqual(sure_harm(LATE, (0, 1), 2), 0)
        bad = ((0, (1, 2), (0, ('most', 1, ('a', 'a'), ((0, 1, 2), (0, 2, 2), (1, 2, 1))))), (1, (0, 1), ()))
        self.assertEqual((lets_choice(LATE, (0, 1), 1, bad), sure_harm(LATE, (0, 1), 1)), (2, 1))

    def test_no_bound(self):
        rows = ((0, (1, 2), (1, ENDLESS)), (1, (1, 2), ()), (2, (1, 2), ()))
        for many in (0, 1, 2):
            self.assertIsNone(lets_choice(FIRST, (1, 2), many, rows))
        # One of the letters leads to a row without a bound, the other one to one with a bound.
        machine = (('a', 'b'), (((1, ''), (2, '')), *FIRST[1][1:]))
        rows = ((0, (1,), (1, ('most', 1, (), ()))), (0, (2,), (1, ENDLESS)), (1, (0,), ()))
        self.assertIsNone(lets_choice(machine, (0,), 1, rows))
        self.assertEqual(lets_choice(machine, (1,), 0, rows), 0)

    def test_states_that_are_none_come_first(self):
        for states, wrong in (((3,), 3), ((0, 1, 2, 3, 4), 3), ((1, SIXTY), SIXTY), ((2, 10 ** 80), 10 ** 80)):
            for thing in (None, (), ROWS, ((0, states, ()),), ((0, (1, 2), (3, None)),)):
                self.assertEqual(caught(lets_choice, LATE, states, 1, thing), (InvalidState, wrong))


if __name__ == '__main__':
    unittest.main()
