"""[44], with [43] and some of [46]: new_standings and places_in_line."""

import itertools
import unittest

from alwaysnew.errors import InvalidBox, InvalidState, NotReached
from alwaysnew.lines import line_standing
from alwaysnew.linesettings import new_standings, places_in_line
from tests.examples import (ALL, COUNT, FIRST, GAPS, LAST, NEW, ODD, OLD, ONCE, SIXTY, caught, is_new_kind,
                            standings_of)
from tests.lineexamples import AB, DEAF, HEARS, LOUD, XY, cases, joint, plain_places

QUIETS = ((), ('x',), ('no', 'yes'), ('a', 'never', 'x', 'y'))


class LineSettingsTest(unittest.TestCase):
    def test_the_examples(self):
        self.assertEqual(new_standings((ONCE, ALL), 1, COUNT, (1, 0)), ((1, 1),))
        self.assertEqual(places_in_line((ONCE, ALL), 1, COUNT, (1, 0)), ((0,), (1,)))
        self.assertEqual(places_in_line((ONCE, ALL), 1, COUNT, (0, 0)), ((0,),))

    def test_new_standings(self):
        many = set()
        for pieces, index, new in cases():
            pairs = joint(pieces, (*pieces[:index], new, *pieces[index + 1:]))
            for states in standings_of(pieces):
                expected = tuple(sorted(other for one, other in pairs if one == states))
                many.add(len(expected))
                if not expected:
                    self.assertEqual(caught(new_standings, pieces, index, new, states), (NotReached, states))
                    self.assertEqual(caught(places_in_line, pieces, index, new, states), (NotReached, states))
                    continue
                found = new_standings(pieces, index, new, states)
                self.assertEqual(found, expected)
                self.assertTrue(is_new_kind(found))
                self.assertEqual(new_standings(states=states, new=new, index=index, pieces=pieces), found)
        self.assertLessEqual({0, 1, 2}, many)

    def test_places(self):
        for pieces, index, new in cases():
            others = [at for at in range(len(pieces)) if at != index]
            frees = [free for many in range(len(others) + 1) for free in itertools.combinations(others, many)]
            pairs = joint(pieces, (*pieces[:index], new, *pieces[index + 1:]))
            for states in sorted({one for one, _ in pairs})[:6]:
                wanted = [other for one, other in pairs if one == states]
                for free, quiet in itertools.product(frees, QUIETS[:3]):
                    found = places_in_line(pieces, index, new, states, free=free, quiet=quiet)
                    self.assertEqual(found, plain_places(pieces, index, new, states, free, quiet, wanted))
                    self.assertTrue(is_new_kind(found))

    def test_defaults_and_names(self):
        pieces, states = (LAST, HEARS, NEW), (1, 1, 1)
        self.assertEqual(places_in_line(pieces, 1, DEAF, states),
                         places_in_line(quiet=(), free=(), states=states, new=DEAF, index=1, pieces=pieces))
        self.assertEqual(places_in_line(pieces, 1, DEAF, states, quiet=('no', 'yes')),
                         places_in_line(states=states, quiet=('no', 'yes'), index=1, pieces=pieces, new=DEAF, free=()))
        self.assertRaises(TypeError, places_in_line, pieces, 1, DEAF, states, ())

    def test_quiet_words(self):
        self.assertEqual(places_in_line((OLD,), 0, NEW, (0,)), ())
        self.assertEqual(places_in_line((OLD,), 0, NEW, (0,), quiet=('no', 'yes')), ((0,), (1,), (2,)))
        self.assertEqual(places_in_line((OLD,), 0, NEW, (0,), quiet=('no',)), ())
        # What the pieces say to one another does not count.
        self.assertEqual(places_in_line((ONCE, ALL), 1, COUNT, (0, 0), quiet=('go',)), ((0,),))
        self.assertEqual(places_in_line((ONCE, ALL), 1, COUNT, (0, 0), quiet=('go', 'x')), ((0,), (1,)))

    def test_free_pieces(self):
        self.assertEqual(places_in_line((ONCE, ALL), 1, COUNT, (1, 0), free=(0,)), ((0, 1), (1, 0), (1, 1)))
        self.assertEqual(places_in_line((ONCE, ALL), 1, COUNT, (0, 0), free=(0,)), ((0, 0),))
        found = places_in_line((LAST, HEARS, OLD), 1, DEAF, (1, 0, 0), free=(0, 2))
        self.assertEqual({len(setting) for setting in found}, {3})

    def test_the_piece_itself_again(self):
        for pieces in ((ONCE, COUNT), (LAST, HEARS, NEW), (FIRST, HEARS, OLD)):
            for past in ((), ('a',), ('b',), ('b', 'a', 'b')):
                states = line_standing(pieces, past)
                for index in range(len(pieces)):
                    self.assertEqual(new_standings(pieces, index, pieces[index], states), (states,))
                    self.assertIn((states[index],), places_in_line(pieces, index, pieces[index], states))

    def test_no_right_setting_is_lost(self):
        for pieces, index, new in itertools.islice(cases(), 3, 12):
            states = line_standing(pieces, ('a', 'b', 'a'))
            right = places_in_line(pieces, index, new, states)
            others = tuple(at for at in range(len(pieces)) if at != index)
            own = tuple(states[at] for at in others)
            with_free = places_in_line(pieces, index, new, states, free=others)
            self.assertLessEqual({(*setting, *own) for setting in right}, set(with_free))
            self.assertLessEqual(set(right), set(places_in_line(pieces, index, new, states, quiet=('x',))))


class ErrorsTest(unittest.TestCase):
    def refuses(self, expected, *args, **named):
        if not named:
            self.assertEqual(caught(new_standings, *args), expected)
        self.assertEqual(caught(places_in_line, *args, **named), expected)
        self.assertEqual(caught(places_in_line, *args, **named), expected)

    def test_pieces(self):
        self.refuses((InvalidBox, 'none', -1), (), 0, OLD, ())
        self.refuses((InvalidBox, 'none', -1), (), None, OLD, (), free=(0,))
        self.refuses((InvalidBox, 'word', 0), (LOUD, HEARS), None, OLD, (9, 9), free=(7,))
        self.refuses((InvalidBox, 'word', 1), (LAST, HEARS, ALL), 2, NEW, (0, 0, 0))
        self.refuses((InvalidBox, 'word', 0), (ONCE, OLD), 1, ALL, (0, 0))

    def test_index(self):
        for thing in (*ODD, 2, 3, '', '0', (), (0,)):
            self.refuses((InvalidBox, 'index', thing), (ONCE, ALL), thing, COUNT, (0, 0))
            self.refuses((InvalidBox, 'index', thing), (ONCE, ALL), thing, NEW, (9, 9), free=(9,))
        self.refuses((InvalidBox, 'index', 1), (OLD,), 1, NEW, (0,))

    def test_free(self):
        pieces = (LAST, HEARS, NEW)
        for index, free, wrong in ((1, (1,), 1), (1, (3,), 3), (1, (0, 0), 0), (1, (2, 0), 0), (1, (0, 1), 1),
                                   (0, (1, 2, 3), 3), (0, (1, 2, 2), 2), (0, (0,), 0), (2, (0, 1, 2), 2),
                                   (0, (2, 1), 1), (1, (SIXTY,), SIXTY), (1, (0, 2, 1), 1)):
            new = DEAF if index == 1 else FIRST
            self.refuses((InvalidBox, 'free', wrong), pieces, index, new, (0, 0, 0), free=free)
            # Before the letters, the words, the states, and whether they are reached.
            self.refuses((InvalidBox, 'free', wrong), pieces, index, ALL, (9, 9, 9), free=free)

    def test_letters(self):
        pieces = (LAST, HEARS, NEW)
        self.refuses((InvalidBox, 'letters', -1), pieces, 0, HEARS, (0, 0, 0))
        self.refuses((InvalidBox, 'letters', -1), pieces, 0, (('a',), (((0, 'x'),),)), (9, 9, 9))
        self.refuses((InvalidBox, 'letters', -1), pieces, 0, (('a', 'b', 'c'), (((0, 'loud'),) * 3,)), (9, 9, 9))
        self.refuses((InvalidBox, 'letters', -1), (OLD,), 0, ALL, (0,))
        # Other letters in another place are a matter of the words.
        more = (('w', 'x', 'y'), (((0, 'a'), (0, ''), (0, 'b')),))
        self.assertEqual(new_standings(pieces, 1, more, (0, 0, 0)), ((0, 0, 0),))
        self.refuses((InvalidBox, 'word', 0), pieces, 1, (('x',), (((0, ''),),)), (0, 0, 0))

    def test_words_in_the_new_line(self):
        pieces = (LAST, HEARS, NEW)
        self.refuses((InvalidBox, 'word', 0), pieces, 0, LOUD, (0, 0, 0))
        self.refuses((InvalidBox, 'word', 1), pieces, 1, (XY, (((0, 'c'), (0, '')),)), (0, 0, 0))
        self.refuses((InvalidBox, 'word', 1), pieces, 2, ALL, (0, 0, 0))
        self.refuses((InvalidBox, 'word', 0), pieces, 1, OLD, (9, 9, 9))
        self.assertIsNone(caught(new_standings, pieces, 2, (AB, (((0, 'loud'), (0, 'c')),)), (0, 0, 0)))

    def test_states(self):
        pieces = (LAST, HEARS, NEW)
        for states, wrong in (((2, 0, 0), 2), ((0, 2, 3), 2), ((0, 0, 3), 3), ((0, 0, SIXTY), SIXTY)):
            self.refuses((InvalidState, wrong), pieces, 1, DEAF, states)
        # The states are those of the line, not of the new one.
        self.refuses((InvalidState, 2), (OLD,), 0, NEW, (2,))
        self.refuses((NotReached, (3,)), (GAPS,), 0, OLD, (3,))

    def test_line_standings_that_are_not_reached(self):
        self.refuses((NotReached, (0, 1)), (ONCE, COUNT), 1, ALL, (0, 1))
        self.refuses((NotReached, (1,)), (GAPS,), 0, OLD, (1,))
        self.refuses((NotReached, (1, 0)), (ONCE, COUNT), 1, COUNT, (1, 0))
        states = (0, 1)
        with self.assertRaises(NotReached) as raised:
            places_in_line((ONCE, COUNT), 1, ALL, states)
        self.assertIs(raised.exception.standing, states)


if __name__ == '__main__':
    unittest.main()
