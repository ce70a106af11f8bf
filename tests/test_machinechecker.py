"""[11]: lets_machine, with [2], [3] and [9]."""

import unittest

from alwaysnew.errors import InvalidPaper
from alwaysnew.machinechecker import lets_machine
from tests.examples import DEEP, MACHINES, NEW, ODD, OLD, SIXTY, caught, made_machine

LETTERS, ROWS = NEW
SHAPE = (InvalidPaper, 'shape', -1)


def with_pair(machine, state, place, pair):
    """Return a machine with another pair in a row."""
    rows = [list(row) for row in machine[1]]
    rows[state][place] = pair
    return (machine[0], tuple(tuple(row) for row in rows))


def with_row(machine, state, row):
    """Return a machine with another row."""
    rows = list(machine[1])
    rows[state] = row
    return (machine[0], tuple(rows))


class MachineCheckerTest(unittest.TestCase):
    def refuses(self, thing, word, at):
        self.assertEqual(caught(lets_machine, thing), (InvalidPaper, word, at), repr(thing)[:200])

    def test_machines(self):
        for machine in MACHINES:
            self.assertEqual(lets_machine(machine), len(machine[1]))
        self.assertEqual(lets_machine(NEW), 3)
        self.assertEqual(lets_machine(thing=OLD), 2)
        self.assertIs(type(lets_machine(OLD)), int)

    def test_the_example(self):
        self.refuses((('a', 'b'), (((0, ''), (1, '')),)), 'next', (0, 1))

    def test_other_values(self):
        for thing in (*ODD, 0, '', 'a', (), ('a',), ('a', 'b'), NEW + NEW, NEW[:1], (NEW,), list(NEW), [NEW],
                      NEW + (1,), (NEW, NEW)):
            self.assertEqual(caught(lets_machine, thing), SHAPE, thing)

    def test_letters_of_another_shape(self):
        for letters in (None, True, 'ab', 'a', ['a', 'b'], ('a', ''), ('',), ('a', 'B'), ('a', 1), ('a', None),
                        ('a', 'abcdefghi'), ('a', ('b',)), ('a', 'b\n'), DEEP):
            self.refuses((letters, ROWS), 'shape', -1)

    def test_rows_of_another_shape(self):
        for rows in (None, 0, 'a', [], list(ROWS), ROWS + (None,), ROWS + ('',), ([*ROWS[0]], *ROWS[1:]), (ROWS,), DEEP,
                     (list(ROWS[0]),), (0,), ('a',), (('a',),), ((1,),)):
            self.refuses((LETTERS, rows), 'shape', -1)

    def test_pairs_of_another_shape(self):
        for pair in ((), (0,), (0, '', ''), [0, ''], '0', 'ab', None, 0, ('', 0), ('0', ''), (None, ''), (0, None),
                     (0, 0), (0, 'X'), (0, 'a b'), (0, 'abcdefghi'), (0, ('x',)), (0, ['x']), (0, '-'), (0, 'x\n'),
                     (True, ''), (False, 'x'), ((0,), ''), ([0], '')):
            for state in range(3):
                for place in range(2):
                    self.refuses(with_pair(NEW, state, place, pair), 'shape', -1)

    def test_true_is_not_one(self):
        self.assertEqual(lets_machine(with_pair(NEW, 0, 0, (1, ''))), 3)
        self.refuses(with_pair(NEW, 0, 0, (True, '')), 'shape', -1)
        self.refuses(with_pair(NEW, 1, 0, (False, '')), 'shape', -1)

    def test_letters(self):
        for letters in (('b', 'a'), ('a', 'a'), ('a', 'c', 'b'), ('a', 'b', 'b')):
            self.refuses((letters, ROWS), 'letters', -1)
        self.refuses(((), ROWS), 'letters', -1)
        self.refuses(((), ((), ())), 'letters', -1)
        self.refuses(((), ()), 'letters', -1)
        self.refuses((('b', 'a'), ()), 'letters', -1)

    def test_rows(self):
        self.refuses((LETTERS, ()), 'rows', -1)
        self.refuses((('a',), ()), 'rows', -1)

    def test_row(self):
        for state in range(3):
            for row in ((), ROWS[state][:1], ROWS[state] + ((0, ''),), ROWS[state] * 2):
                self.refuses(with_row(NEW, state, row), 'row', state)
        self.refuses((('a',), ROWS), 'row', 0)
        self.refuses((('a', 'b', 'c'), ROWS), 'row', 0)

    def test_next(self):
        for state in range(3):
            for place in range(2):
                for follower in (-1, -3, 3, 4, SIXTY, -SIXTY, 10 ** 70):
                    self.refuses(with_pair(NEW, state, place, (follower, 'x')), 'next', (state, place))
                for follower in (0, 2):
                    self.assertEqual(lets_machine(with_pair(NEW, state, place, (follower, 'x'))), 3)

    def test_the_first_reason_counts(self):
        bad_next = with_pair(with_pair(NEW, 2, 0, (7, '')), 1, 1, (-1, ''))
        self.refuses(bad_next, 'next', (1, 1))
        self.refuses(with_pair(bad_next, 1, 0, (3, '')), 'next', (1, 0))
        self.refuses(with_row(bad_next, 2, ()), 'next', (1, 1))
        self.refuses(with_row(bad_next, 0, ()), 'row', 0)
        self.refuses(with_row(bad_next, 1, ((9, ''),)), 'row', 1)
        self.refuses((('b', 'a'), bad_next[1]), 'letters', -1)
        self.refuses((('b', 'a'), with_row(bad_next, 0, ())[1]), 'letters', -1)
        self.refuses(with_pair(bad_next, 2, 1, (0, 'X')), 'shape', -1)
        self.refuses((('b', 'a'), ((('x', ''),),)), 'shape', -1)
        self.refuses((('b', 'A'), ()), 'shape', -1)

    def test_sixty_states(self):
        big = made_machine(5, states=60, letters=('a', 'b', 'c'))
        self.assertEqual(lets_machine(big), 60)
        self.refuses(with_pair(big, 59, 2, (60, 'x')), 'next', (59, 2))
        self.refuses(with_row(big, 59, big[1][59][:2]), 'row', 59)
        self.refuses(with_pair(big, 59, 2, (59, 'X')), 'shape', -1)
        self.assertEqual(lets_machine(with_pair(big, 59, 2, (59, 'x'))), 60)

    def test_every_call_refuses_alike(self):
        for thing in (NEW[::-1], (LETTERS, ())):
            self.assertEqual(caught(lets_machine, thing), caught(lets_machine, thing))

    def test_errors_are_papers_errors_with_the_stated_place(self):
        with self.assertRaises(InvalidPaper) as raised:
            lets_machine(with_pair(NEW, 1, 1, (3, '')))
        self.assertEqual((raised.exception.word, raised.exception.at), ('next', (1, 1)))
        self.assertIs(type(raised.exception.at), tuple)


if __name__ == '__main__':
    unittest.main()
