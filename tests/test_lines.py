"""[43]: line_step and line_standing."""

import itertools
import unittest

from alwaysnew.errors import InvalidBox, InvalidLetter, InvalidState
from alwaysnew.lines import line_standing, line_step
from tests.examples import (ALL, COUNT, FIRST, GAPS, LAST, LATE, LONE, NAMED, NEW, ODD, OLD, ONCE, caught, is_new_kind,
                            made_machine, plain_line, plain_line_run, readings, standings_of)

# It says a name that no machine here reads, in a state that is not reached.
LOUD = (('a', 'b'), (((0, ''), (0, 'go')), ((0, 'loud'), (0, ''))))
HEARS = (('x', 'y'), (((1, 'a'), (0, '')), ((0, 'b'), (1, 'a'))))
LINES = ((OLD,), (FIRST,), (GAPS,), (ONCE, ALL), (ONCE, COUNT), (LAST, HEARS), (LAST, HEARS, NEW), (LAST, HEARS, ONCE),
         (OLD, ALL), (OLD, LONE, ALL), (ONCE, ALL, HEARS), (LAST, HEARS, OLD))
MADE = tuple((made_machine(seed, 3, ('a', 'b'), ('', 'x', 'y')), made_machine(seed + 1, 3, ('x', 'y'), ('', 'a', 'b')),
              made_machine(seed + 2, 2, ('a', 'b', 'c'), ('', 'z'))) for seed in range(0, 30, 3))


class LinesTest(unittest.TestCase):
    def test_the_examples(self):
        self.assertEqual(line_step((ONCE, COUNT), (0, 0), 'b'), ((1, 1), 'x'))
        self.assertEqual(line_standing((ONCE, COUNT), ('a', 'b', 'b')), (1, 1))

    def test_steps_from_every_standing(self):
        for pieces in (*LINES, *MADE):
            for states, letter in itertools.product(standings_of(pieces), pieces[0][0]):
                result = line_step(pieces, states, letter)
                self.assertEqual(result, plain_line(pieces, states, letter))
                self.assertTrue(is_new_kind(result))
                self.assertEqual(line_step(letter=letter, states=states, pieces=pieces), result)

    def test_standings(self):
        for pieces in (*LINES, *MADE):
            for past in readings(pieces[0][0], 4):
                standing = line_standing(pieces, past)
                self.assertEqual(standing, plain_line_run(pieces, (0,) * len(pieces), past)[0])
                self.assertTrue(is_new_kind(standing))
                self.assertEqual(line_standing(past=past, pieces=pieces), standing)

    def test_a_line_of_one_piece_is_that_machine(self):
        self.assertEqual(line_step((NEW,), (1,), 'b'), ((2,), 'yes'))
        self.assertEqual(line_standing((NEW,), ()), (0,))
        self.assertEqual(line_standing((NEW,), ('a', 'a', 'b')), (2,))

    def test_pieces_behind_one_that_says_nothing_read_nothing(self):
        self.assertEqual(line_step((ONCE, COUNT), (0, 1), 'a'), ((0, 1), ''))
        self.assertEqual(line_step((ONCE, COUNT), (1, 0), 'b'), ((1, 0), ''))
        # The second piece says nothing: the third one stays, although the first one moves.
        self.assertEqual(line_step((LAST, HEARS, NEW), (1, 0, 0), 'a'), ((0, 0, 0), ''))
        self.assertEqual(line_step((LAST, HEARS, NEW), (0, 0, 0), 'b'), ((1, 1, 1), ''))
        self.assertEqual(line_step((LAST, HEARS, NEW), (0, 1, 1), 'b'), ((1, 0, 2), 'yes'))

    def test_no_piece(self):
        for states, letter in (((), 'a'), ((0,), None), ((None,), 'c')):
            self.assertEqual(caught(line_step, (), states, letter), (InvalidBox, 'none', -1))
        self.assertEqual(caught(line_standing, (), ('a',)), (InvalidBox, 'none', -1))
        self.assertEqual(caught(line_standing, (), ()), (InvalidBox, 'none', -1))

    def test_words_that_the_next_piece_does_not_read(self):
        for pieces, at in (((NEW, OLD), 0), ((ONCE, OLD), 0), ((ONCE, ALL, OLD), 1), ((NEW, ALL, OLD), 0),
                           ((OLD, ALL, OLD), 1), ((LOUD, ALL), 0), ((LOUD, COUNT, HEARS), 0), ((GAPS, HEARS), 0),
                           ((LATE, ALL), 0), ((OLD, LAST, HEARS, NEW, NAMED), 3), ((LAST, HEARS, ALL), 1),
                           ((FIRST, (('x',), (((0, ''),),))), 0), ((FIRST, (('y',), (((0, ''),),))), 0)):
            expected = (InvalidBox, 'word', at)
            self.assertEqual(caught(line_step, pieces, (0,) * len(pieces), 'a'), expected)
            self.assertEqual(caught(line_step, pieces, (9,) * len(pieces), 'zz'), expected)
            self.assertEqual(caught(line_standing, pieces, ('a',)), expected)
            self.assertEqual(caught(line_standing, pieces, ('zz',)), expected)
            self.assertEqual(caught(line_standing, pieces, ()), expected)

    def test_words_of_the_last_piece_are_free(self):
        self.assertEqual(line_step((LOUD,), (1,), 'a'), ((0,), 'loud'))
        self.assertEqual(line_step((OLD, NEW), (0, 0), 'a'), ((1, 0), ''))

    def test_letters_come_before_states(self):
        for letter in ('c', 'go', 'x', 'ab', 'loud'):
            self.assertEqual(caught(line_step, (ONCE, COUNT), (0, 0), letter), (InvalidLetter, letter))
            self.assertEqual(caught(line_step, (ONCE, COUNT), (2, 7), letter), (InvalidLetter, letter))
            self.assertEqual(caught(line_standing, (ONCE, COUNT), ('a', letter, 'zz')), (InvalidLetter, letter))

    def test_states(self):
        for states, wrong in (((2, 0), 2), ((0, 2), 2), ((5, 7), 5), ((1, 3), 3), ((10 ** 61, 0), 10 ** 61)):
            self.assertEqual(caught(line_step, (ONCE, COUNT), states, 'a'), (InvalidState, wrong))
        for wrong in ODD:
            self.assertEqual(caught(line_step, (ONCE, COUNT), (0, wrong), 'a'), (InvalidState, wrong))
            self.assertEqual(caught(line_step, (ONCE, COUNT), (wrong, 9), 'a'), (InvalidState, wrong))
        self.assertEqual(caught(line_step, (LAST, HEARS, ONCE), (1, 1, 2), 'b'), (InvalidState, 2))

    def test_another_piece_has_other_states(self):
        self.assertEqual(line_step((OLD, COUNT), (1, 1), 'a'), ((0, 1), ''))
        self.assertEqual(caught(line_step, (OLD, ALL), (1, 1), 'a'), (InvalidState, 1))
        self.assertEqual(line_step((NEW[:1] + (NEW[1][:2] + (((2, ''), (0, '')),),),), (2,), 'b'), ((0,), ''))


if __name__ == '__main__':
    unittest.main()
