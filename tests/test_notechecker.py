"""[53] and [54]: lets_notebook and lets_needs."""

import itertools
import unittest

from alwaysnew.errors import InvalidPaper
from alwaysnew.notebooks import least_notes, note_after, notebook
from alwaysnew.notechecker import lets_needs, lets_notebook
from alwaysnew.notepapers import needs_paper
from tests.changes import book_errors, changes, needs_errors
from tests.examples import FIRST, LAST, NEW, ODD, OLD, SIXTY, THREE, caught, plain_after, readings
from tests.noteexamples import QUIETS, is_notebook, note_cases, places_of, plain_least_notes, unlike_places

BOTH = (OLD, NEW)
BOOK = (((0,), 0, (0,), (0, 1)), ((0,), 1, (2,), (1, 1)), ((1,), 0, (1,), (0, 1)), ((1,), 1, (2,), (1, 1)))
# Its notes have other numbers, it has more of them than needed, and a row that is never used.
LOOSE = (((0,), 0, (0,), (5, 9)), ((0,), 4, (2,), (4, 4)), ((0,), 7, (0,), (5, 4)), ((0,), 9, (2,), (4, 9)),
         ((1,), 4, (2,), (9, 4)), ((1,), 5, (1,), (7, 4)), ((1,), 8, (1,), (0, 4)))
NEEDS = (((), ('b',)), ((1, ('b',)),))
# Without versions at hand NEW needs three notes.
THREE_NEEDS = (((), ('a',), ('b',)), ((1, ('b',)), (1, ('b',)), (1, ('b',))))


def with_row(book, k, at, part):
    """Return a book with another part in one row."""
    row = (*book[k][:at], part, *book[k][at + 1:])
    return (*book[:k], row, *book[k + 1:])


class NotebookTest(unittest.TestCase):
    def refuses(self, thing, word, at, versions=BOTH, hand=(0,), wanted=(1,), quiet=()):
        error = caught(lets_notebook, versions, hand, wanted, thing, quiet=quiet)
        self.assertEqual(error, (InvalidPaper, word, at), repr(thing)[:100])

    def test_the_example(self):
        self.assertEqual(lets_notebook(BOTH, (0,), (1,), BOOK), 2)

    def test_by_name(self):
        self.assertEqual(lets_notebook(thing=BOOK, wanted=(1,), hand=(0,), versions=BOTH), 2)
        book = notebook(BOTH, (0,), (1,), quiet=('no', 'yes'))
        self.assertEqual(lets_notebook(quiet=('no', 'yes'), thing=book, wanted=(1,), hand=(0,), versions=BOTH), 1)
        self.assertRaises(TypeError, lets_notebook, BOTH, (0,), (1,), BOOK, ())

    def test_books_of_the_program_and_changed_ones(self):
        words = {}
        for seed, (versions, hand, wanted) in enumerate(note_cases()):
            for quiet in QUIETS[::2]:
                book = notebook(versions, hand, wanted, quiet=quiet)
                least = plain_least_notes(versions, hand, wanted, quiet)
                self.assertEqual(lets_notebook(versions, hand, wanted, book, quiet=quiet), least)
                for thing in changes(book, seed, 8):
                    error = next(book_errors(versions, hand, wanted, thing, quiet), None)
                    if error is None:
                        self.assertTrue(is_notebook(versions, hand, wanted, thing, quiet))
                        many = lets_notebook(versions, hand, wanted, thing, quiet=quiet)
                        self.assertEqual(many, len({row[1] for row in thing}))
                        self.assertGreaterEqual(many, least)
                    else:
                        self.assertFalse(is_notebook(versions, hand, wanted, thing, quiet))
                        self.refuses(thing, *error, versions, hand, wanted, quiet)
                    words[error and error[0]] = words.get(error and error[0], 0) + 1
        self.assertEqual(set(words), {None, 'shape', 'hand', 'true', 'nexts', 'rise', 'begin', 'next', 'alike'})
        self.assertGreater(min(words.values()), 30)

    def test_other_books(self):
        self.assertEqual(lets_notebook(BOTH, (0,), (1,), LOOSE), 6)
        # All states of OLD are alike, so another one is right in true, too.
        self.assertEqual(lets_notebook(BOTH, (1,), (0,), tuple(((p,), 0, (1,), (0, 0)) for p in range(3))), 1)
        note = 10 ** 59
        book = (((), 0, (0,), (note, 1)), ((), 1, (2,), (1, 1)), ((), note, (1,), (0, 1)))
        self.assertEqual(lets_notebook(BOTH, (), (1,), book), 3)
        self.assertEqual(lets_notebook(BOTH, (0, 1), (0, 1), (
            ((0, 0), 0, (0, 0), (0, 0)), ((0, 2), 0, (1, 2), (0, 0)), ((1, 1), 0, (0, 1), (0, 0)),
            ((1, 2), 0, (1, 2), (0, 0)))), 1)

    def test_shape(self):
        for thing in (*[one for one in ODD if one != ()], 0, '', 'a', BOOK[0], [BOOK[0]], list(BOOK), (BOOK[0], 1),
                      (list(BOOK[0]),), (BOOK[0][:3],), ((*BOOK[0], 0),),
                      *[with_row(BOOK, k, at, wrong) for k in (0, 3) for at in (0, 2, 3)
                        for wrong in (None, 0, 'a', [], [0], (True,), (-1,), ('0',), ((0,),), (None,))],
                      *[with_row(BOOK, k, 1, wrong) for k in (0, 3) for wrong in (None, True, -1, '0', (0,), [])]):
            self.refuses(thing, 'shape', -1)

    def test_hand(self):
        for k in range(4):
            for at_hand in ((), (2,), (SIXTY,), (0, 0), (0, 1)):
                self.refuses(with_row(BOOK, k, 0, at_hand), 'hand', k)
        self.refuses(with_row(with_row(BOOK, 1, 2, (9,)), 1, 0, (5,)), 'hand', 1)
        self.refuses((((0,), 0, (0,), (0, 0)),), 'hand', 0, hand=())
        self.refuses((((0,), 0, (0,), (0, 0)),), 'hand', 0, hand=(0, 1))

    def test_true(self):
        for k in range(4):
            for true in ((), (3,), (SIXTY,), (0, 0)):
                self.refuses(with_row(BOOK, k, 2, true), 'true', k)
        self.refuses(with_row(with_row(BOOK, 1, 2, (9,)), 1, 3, ()), 'true', 1)

    def test_nexts(self):
        for k in range(4):
            for nexts in ((), (0,), (0, 0, 0)):
                self.refuses(with_row(BOOK, k, 3, nexts), 'nexts', k)
        self.refuses((BOOK[0], BOOK[0][:3] + ((),)), 'nexts', 1)
        versions = (THREE, THREE)
        self.refuses((((0,), 0, (0,), (0, 0)),), 'nexts', 0, versions)

    def test_rise(self):
        self.refuses((BOOK[0], BOOK[0], *BOOK[1:]), 'rise', 1)
        self.refuses((BOOK[1], BOOK[0], *BOOK[2:]), 'rise', 1)
        self.refuses((BOOK[2], *BOOK[:2], BOOK[3]), 'rise', 1)
        self.refuses((*BOOK, BOOK[0]), 'rise', 4)
        # The states at hand and the note rise, whatever else is in the row.
        self.refuses((BOOK[0], ((0,), 0, (1,), (1, 1)), *BOOK[1:]), 'rise', 1)
        # All checks of a row come before those of the next one.
        self.refuses((BOOK[1], BOOK[0], ((7,), 0, (0,), ())), 'rise', 1)
        self.refuses((BOOK[1], ((7,), 0, (0,), ()), BOOK[0]), 'hand', 1)

    def test_begin(self):
        for thing in ((), BOOK[1:], with_row(BOOK, 0, 2, (1,)), with_row(BOOK, 0, 2, (2,))):
            self.refuses(thing, 'begin', -1)
        self.refuses(with_row(BOOK[1:], 1, 3, (8, 8)), 'begin', -1)
        self.refuses((((1,), 0, (1,), (0, 1)), ((1,), 1, (2,), (1, 1))), 'begin', -1)
        # With quiet words more states are alike.
        self.assertEqual(lets_notebook(BOTH, (0,), (1,), with_row(BOOK, 0, 2, (2,)), quiet=('no', 'yes')), 2)
        self.refuses(with_row(BOOK, 0, 2, (2,)), 'begin', -1, quiet=('no',))

    def test_next(self):
        self.refuses(BOOK[:2], 'next', (0, 0))
        self.refuses((BOOK[0], *BOOK[2:]), 'next', (0, 1))
        self.refuses(BOOK[:3], 'next', (1, 0))
        for k in range(4):
            for j in range(2):
                nexts = (*BOOK[k][3][:j], 7, *BOOK[k][3][j + 1:])
                self.refuses(with_row(BOOK, k, 3, nexts), 'next', (k, j))
        self.refuses(with_row(BOOK, 0, 3, (7, 7)), 'next', (0, 0))
        self.refuses(with_row(BOOK, 0, 3, (SIXTY, 0)), 'next', (0, 0))

    def test_alike(self):
        self.refuses(with_row(BOOK, 0, 3, (1, 1)), 'alike', (0, 0))
        self.refuses(with_row(BOOK, 0, 3, (0, 0)), 'alike', (0, 1))
        self.refuses(with_row(BOOK, 1, 3, (0, 1)), 'alike', (1, 0))
        self.refuses(with_row(BOOK, 2, 2, (0,)), 'alike', (0, 0))
        self.refuses(with_row(BOOK, 3, 2, (0,)), 'alike', (1, 0))
        # Both checks of a letter come before those of the next one.
        self.refuses(with_row(BOOK, 0, 3, (1, 7)), 'alike', (0, 0))
        self.refuses(with_row(BOOK, 0, 3, (7, 0)), 'next', (0, 0))
        self.assertEqual(lets_notebook(BOTH, (0,), (1,), with_row(BOOK, 0, 3, (1, 1)), quiet=('no', 'yes')), 2)
        # Each wanted version counts.
        versions = (OLD, NEW, FIRST)
        book = notebook(versions, (0,), (1, 2))
        last = [k for k, row in enumerate(book) if row[:2] == ((1,), book[0][3][0])][0]
        wrong = with_row(book, last, 2, (book[last][2][0], 2))
        self.refuses(wrong, 'alike', (0, 0), versions, (0,), (1, 2))

    def test_accepted_books_tell_the_truth(self):
        for book in (BOOK, LOOSE):
            for past in readings(('a', 'b'), 6):
                true, standing = note_after(BOTH, (0,), book, past)[1], plain_after(BOTH, past)
                self.assertEqual(unlike_places(BOTH, (1,), true, places_of(standing, (1,)), ()), [])


class NeedsTest(unittest.TestCase):
    def refuses(self, thing, word, at, versions=BOTH, hand=(0,), wanted=(1,), quiet=()):
        error = caught(lets_needs, versions, hand, wanted, thing, quiet=quiet)
        self.assertEqual(error, (InvalidPaper, word, at), repr(thing)[:100])

    def test_the_example(self):
        self.assertEqual(lets_needs(BOTH, (0,), (1,), NEEDS), 2)

    def test_by_name(self):
        self.assertEqual(lets_needs(thing=NEEDS, wanted=(1,), hand=(0,), versions=BOTH), 2)
        self.assertEqual(lets_needs(quiet=('yes',), thing=NEEDS, wanted=(1,), hand=(0,), versions=BOTH), 2)
        self.assertRaises(TypeError, lets_needs, BOTH, (0,), (1,), NEEDS, ())

    def test_papers_of_the_program_and_changed_ones(self):
        words = {}
        for seed, (versions, hand, wanted) in enumerate(note_cases()):
            for quiet in QUIETS[::2]:
                paper = needs_paper(versions, hand, wanted, quiet=quiet)
                least = plain_least_notes(versions, hand, wanted, quiet)
                self.assertEqual(lets_needs(versions, hand, wanted, paper, quiet=quiet), least)
                for thing in changes(paper, seed, 8):
                    error = next(needs_errors(versions, hand, wanted, thing, quiet), None)
                    if error is None:
                        many = lets_needs(versions, hand, wanted, thing, quiet=quiet)
                        self.assertEqual(many, len(thing[0]))
                        # No accepted notebook has fewer notes.
                        self.assertLessEqual(many, least)
                        self.assertEqual(least_notes(versions, hand, wanted, quiet=quiet), least)
                    else:
                        self.refuses(thing, *error, versions, hand, wanted, quiet)
                    words[error and error[0]] = words.get(error and error[0], 0) + 1
        self.assertEqual(set(words), {None, 'shape', 'many', 'letter', 'hand', 'parting'})
        self.assertGreater(min(words.values()), 30)

    def test_shape(self):
        for thing in (*ODD, 0, '', (), ((),), ((), (), ()), list(NEEDS), (list(NEEDS[0]), NEEDS[1]),
                      (NEEDS[0], list(NEEDS[1])), (NEEDS[0], None), (None, NEEDS[1]), 'ab',
                      *[(pasts, NEEDS[1]) for pasts in (((), 'b'), ((), ['b']), ((), None), ((), ('B',)), ((), (1,)),
                                                        ((), ('',)), ((), (('b',),)), ('a', 'b'))],
                      *[(NEEDS[0], (parting,)) for parting in ((), (1,), (1, ('b',), 0), [1, ('b',)], (True, ('b',)),
                                                               (-1, ('b',)), ('1', ('b',)), (1, 'b'), (1, ['b']),
                                                               (1, ('B',)), (1, (0,)), None, 1)]):
            self.refuses(thing, 'shape', -1)

    def test_many(self):
        for thing in (((), ()), ((), NEEDS[1]), (NEEDS[0], ()), (NEEDS[0], NEEDS[1] * 2), (((),), NEEDS[1]),
                      (((), ('b',), ('a', 'a')), NEEDS[1] * 2), (((), ('b',), ('a', 'a')), NEEDS[1] * 4)):
            self.refuses(thing, 'many', -1)
        self.refuses((((), ('zz',)), ()), 'many', -1)

    def test_letter(self):
        for wrong in ('c', 'zz', 'no'):
            self.refuses((((), ('b', wrong, wrong)), NEEDS[1]), 'letter', (1, 1))
            self.refuses(((('a', 'a', wrong), (wrong,)), NEEDS[1]), 'letter', (0, 2))
            # All letters come before the states at hand.
            self.refuses((((), ('a',), (wrong,)), NEEDS[1] * 3), 'letter', (2, 0))

    def test_hand(self):
        self.refuses((((), ('a',)), NEEDS[1]), 'hand', 1)
        self.refuses((((), ('b',), ('a',)), NEEDS[1] * 3), 'hand', 2)
        self.refuses((((), ('a',), ('b', 'a')), NEEDS[1] * 3), 'hand', 1)
        self.refuses(((('a',), ('a', 'a'), ('b',)), ((9, ()),) * 3), 'hand', 1)
        self.refuses((((), ('a',)), NEEDS[1]), 'hand', 1, (FIRST, OLD, NEW), (0, 1), (2,))
        self.assertEqual(lets_needs(BOTH, (), (1,), (((), ('a',)), NEEDS[1])), 2)
        self.assertEqual(lets_needs(BOTH, (), (1,), THREE_NEEDS), 3)

    def test_parting(self):
        for parting in ((0, ('b',)), (2, ('b',)), (SIXTY, ('b',)), (1, ()), (1, ('a',)), (1, ('c',)), (1, ('b', 'a')),
                        (1, ('b', 'zz'))):
            self.refuses((NEEDS[0], (parting,)), 'parting', 0)
            for k in range(3):
                partings = (*THREE_NEEDS[1][:k], parting, *THREE_NEEDS[1][k + 1:])
                self.refuses((THREE_NEEDS[0], partings), 'parting', k, hand=())
        self.refuses(NEEDS, 'parting', 0, quiet=('no',))
        self.refuses(NEEDS, 'parting', 0, quiet=('maybe', 'no', 'yes'))
        self.assertEqual(lets_needs(BOTH, (0,), (1,), (NEEDS[0], ((1, ('a', 'b')),)), quiet=('no',)), 2)
        # Two pasts after which no states are unlike.
        self.refuses((((), ('a', 'a')), NEEDS[1]), 'parting', 0)

    def test_the_order_of_the_partings(self):
        # (0, 1), (0, 2), (1, 2): only LAST parts the first two pasts, only FIRST the last ones.
        versions = (FIRST, LAST)
        pasts = (('a', 'a'), ('a', 'b'), ('b', 'b'))
        partings = ((1, ('a',)), (0, ('a',)), (0, ('a',)))
        self.assertEqual(lets_needs(versions, (), (0, 1), (pasts, partings)), 3)
        self.refuses((pasts, ((0, ('a',)), *partings[1:])), 'parting', 0, versions, (), (0, 1))
        self.refuses((pasts, (*partings[:2], (1, ('a',)))), 'parting', 2, versions, (), (0, 1))
        self.assertEqual(lets_needs(versions, (), (0, 1), (pasts, (partings[0], (1, ('a',)), partings[2]))), 3)
        self.refuses((pasts, partings), 'parting', 0, versions, (), (0,))
        self.refuses((pasts, partings), 'parting', 1, versions, (), (1,))

    def test_one_past_is_always_right(self):
        for past in readings(('a', 'b'), 3):
            for hand, wanted in itertools.product(((), (0,), (1,), (0, 1)), ((0,), (1,), (0, 1))):
                self.assertEqual(lets_needs(BOTH, hand, wanted, ((past,), ())), 1)


if __name__ == '__main__':
    unittest.main()
