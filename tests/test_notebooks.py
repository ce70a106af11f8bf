"""[51] and [52]: least_notes, notebook and note_after."""

import itertools
import unittest

from alwaysnew.errors import InvalidLetter
from alwaysnew.notebooks import least_notes, note_after, notebook
from tests.examples import FIRST, LAST, NEW, ODD, OLD, caught, is_new_kind, plain_after, readings
from tests.noteexamples import (QUIETS, is_notebook, note_cases, places_of, plain_least_notes, plain_note_after,
                                unlike_places)
from tests.tailexamples import SILENT, TWO

BOTH = (OLD, NEW)
BOOK = (((0,), 0, (0,), (0, 1)), ((0,), 1, (2,), (1, 1)), ((1,), 0, (1,), (0, 1)), ((1,), 1, (2,), (1, 1)))
# Its notes have other numbers, it has more of them than needed, and a row that is never used.
LOOSE = (((0,), 0, (0,), (5, 9)), ((0,), 4, (2,), (4, 4)), ((0,), 7, (0,), (5, 4)), ((0,), 9, (2,), (4, 9)),
         ((1,), 4, (2,), (9, 4)), ((1,), 5, (1,), (7, 4)), ((1,), 8, (1,), (0, 4)))


class NotebooksTest(unittest.TestCase):
    def test_the_examples(self):
        self.assertEqual([least_notes(BOTH, (0,), (1,)), least_notes((OLD, FIRST), (0,), (1,)),
                          least_notes(BOTH, (), (1,))], [2, 3, 3])
        self.assertEqual(note_after(BOTH, (0,), BOOK, ('a', 'b', 'a')), (1, (2,)))

    def test_least_notes(self):
        found = set()
        for (versions, hand, wanted), quiet in itertools.product(note_cases(), QUIETS):
            least = least_notes(versions, hand, wanted, quiet=quiet)
            self.assertEqual(least, plain_least_notes(versions, hand, wanted, quiet))
            self.assertIs(type(least), int)
            found.add(least)
        self.assertLessEqual({1, 2, 3, 4, 5}, found)

    def test_notebooks(self):
        for (versions, hand, wanted), quiet in itertools.product(note_cases(), QUIETS):
            book = notebook(versions, hand, wanted, quiet=quiet)
            self.assertTrue(is_notebook(versions, hand, wanted, book, quiet))
            self.assertTrue(is_new_kind(book))
            notes = {row[1] for row in book}
            self.assertEqual(len(notes), plain_least_notes(versions, hand, wanted, quiet))

    def test_notes_after_many_pasts(self):
        for (versions, hand, wanted), quiet in itertools.product(list(note_cases())[::3], QUIETS[:3]):
            book = notebook(versions, hand, wanted, quiet=quiet)
            for past in readings(versions[0][0], 4):
                found = note_after(versions, hand, book, past)
                self.assertEqual(found, plain_note_after(versions, hand, book, past))
                self.assertTrue(is_new_kind(found))
                standing = plain_after(versions, past)
                self.assertEqual(unlike_places(versions, wanted, found[1], places_of(standing, wanted), quiet), [])
            self.assertEqual(note_after(versions, hand, book, ())[0], 0)

    def test_versions_at_hand_that_are_wanted(self):
        for (versions, hand, wanted) in note_cases():
            if set(wanted) <= set(hand):
                self.assertEqual(least_notes(versions, hand, wanted), 1)
                self.assertEqual({row[1] for row in notebook(versions, hand, wanted)}, {0})

    def test_none_at_hand(self):
        self.assertEqual(least_notes(BOTH, (), (0,)), 1)
        self.assertEqual(least_notes((FIRST, LAST), (), (0, 1)), 5)
        book = notebook(BOTH, (), (1,))
        self.assertEqual([row[0] for row in book], [(), (), ()])
        self.assertEqual(note_after(BOTH, (), book, ('a', 'b'))[1], (2,))
        self.assertEqual(note_after(BOTH, (), book, ('a', 'a', 'a'))[1], (1,))

    def test_by_name(self):
        self.assertEqual(least_notes(quiet=('no', 'yes'), wanted=(1,), hand=(0,), versions=BOTH), 1)
        self.assertEqual(least_notes(wanted=(1,), hand=(0,), versions=BOTH), 2)
        self.assertEqual(notebook(wanted=(1,), hand=(0,), versions=BOTH), notebook(BOTH, (0,), (1,), quiet=()))
        self.assertEqual(len({row[1] for row in notebook(quiet=('no', 'yes'), wanted=(1,), hand=(0,), versions=BOTH)}),
                         1)
        self.assertEqual(note_after(past=('b',), book=BOOK, hand=(0,), versions=BOTH), (1, (2,)))
        self.assertRaises(TypeError, least_notes, BOTH, (0,), (1,), ())
        self.assertRaises(TypeError, notebook, BOTH, (0,), (1,), ())

    def test_words_that_nobody_says(self):
        self.assertEqual(least_notes(BOTH, (0,), (1,), quiet=('maybe',)), 2)
        self.assertEqual(least_notes(BOTH, (), (1,), quiet=('maybe', 'no')), 3)
        self.assertEqual(least_notes((SILENT, TWO), (0,), (1,), quiet=('x',)), 4)
        self.assertEqual(least_notes((SILENT, TWO), (0,), (1,), quiet=('x', 'y')), 1)

    def test_the_place_in_the_order_of_the_versions(self):
        # The indexes at hand and wanted are those of the versions, in any places.
        versions = (NEW, OLD, FIRST)
        self.assertEqual(least_notes(versions, (1,), (0,)), 2)
        self.assertEqual(least_notes(versions, (1,), (2,)), 3)
        self.assertEqual(least_notes(versions, (0,), (1,)), 1)
        book = notebook(versions, (1,), (0, 2))
        for past in readings(('a', 'b'), 5):
            state, true = plain_after(versions, past), note_after(versions, (1,), book, past)[1]
            self.assertEqual((state[0], state[2]), true)


class NoteAfterTest(unittest.TestCase):
    def test_books_written_by_hand(self):
        for book in (BOOK, LOOSE):
            self.assertTrue(is_notebook(BOTH, (0,), (1,), book))
            for past in readings(('a', 'b'), 6):
                self.assertEqual(note_after(BOTH, (0,), book, past), plain_note_after(BOTH, (0,), book, past))
        self.assertEqual(note_after(BOTH, (0,), LOOSE, ('a', 'a', 'b')), (4, (2,)))
        self.assertEqual(note_after(BOTH, (0,), LOOSE, ('b', 'b', 'a')), (4, (2,)))

    def test_large_notes(self):
        note = 10 ** 59
        book = (((), 0, (0,), (note, 1)), ((), 1, (2,), (1, 1)), ((), note, (1,), (0, 1)))
        self.assertTrue(is_notebook(BOTH, (), (1,), book))
        self.assertEqual(note_after(BOTH, (), book, ('a',)), (note, (1,)))
        self.assertEqual(note_after(BOTH, (), book, ('a', 'a', 'a', 'b')), (1, (2,)))

    def test_letters_that_are_none(self):
        for thing in (*ODD, 'c', '', 0, 'ab', 'no'):
            self.assertEqual(caught(note_after, BOTH, (0,), BOOK, ('a', thing, 'zz')), (InvalidLetter, thing))
            self.assertEqual(caught(note_after, BOTH, (0,), BOOK, (thing,)), (InvalidLetter, thing))


class ConsequencesTest(unittest.TestCase):
    def test_more_at_hand_fewer_wanted_and_more_quiet_words(self):
        for versions, hand, wanted in note_cases():
            least = least_notes(versions, hand, wanted)
            for i in range(len(versions)):
                more, fewer = tuple(sorted({*hand, i})), tuple(j for j in wanted if j != i)
                self.assertLessEqual(least_notes(versions, more, wanted), least)
                if fewer:
                    self.assertLessEqual(least_notes(versions, hand, fewer), least)
            for quiet in QUIETS:
                self.assertLessEqual(least_notes(versions, hand, wanted, quiet=quiet), least)


if __name__ == '__main__':
    unittest.main()
