"""[45] and [46], with the errors of [43] and [44]: line_paper."""

import itertools
import unittest

from alwaysnew.boxes import Box, Line
from alwaysnew.errors import InvalidBox, InvalidState, NotReached
from alwaysnew.knowledge import Knowledge
from alwaysnew.linepapers import line_paper
from alwaysnew.lines import line_standing
from alwaysnew.linesettings import places_in_line
from alwaysnew.readiness import true_states
from tests.examples import (ALL, COUNT, FIRST, GAPS, LAST, NEW, ODD, OLD, ONCE, SIXTY, caught, is_new_kind,
                            plain_line_run, plain_reached, readings)
from tests.lineexamples import AB, DEAF, HEARS, LOUD, cases, is_line_paper, settings_of

CASE = ((LAST, HEARS, NEW), 1, DEAF, (1, 1, 1), (1,))


class LinePapersTest(unittest.TestCase):
    def test_the_examples(self):
        self.assertEqual(line_paper((ONCE, ALL), 1, COUNT, (1, 0), (0,)), ('true', (((1, 0), (1, 1)),)))
        paper = line_paper((ONCE, ALL), 1, COUNT, (0, 0), (1,))
        self.assertEqual(paper[0], 'wrong')
        self.assertTrue(is_line_paper(((ONCE, ALL), 1, COUNT, (0, 0), (1,)), paper))

    def test_a_paper_for_each_setting(self):
        counts = {True: 0, False: 0}
        longest = 0
        for case, free in settings_of(4):
            for quiet in ((), ('a', 'x')):
                paper = line_paper(*case, free=free, quiet=quiet)
                right = case[4] in places_in_line(*case[:4], free=free, quiet=quiet)
                counts[right] += 1
                self.assertEqual(paper[0], 'true' if right else 'wrong')
                self.assertTrue(is_line_paper(case, paper, free, quiet), (case, free, quiet, paper))
                self.assertTrue(is_new_kind(paper))
                longest = max(longest, len(paper[1]))
        self.assertGreater(min(counts.values()), 200)
        self.assertGreater(longest, 2)

    def test_defaults_and_names(self):
        self.assertEqual(line_paper(*CASE), line_paper(*CASE, quiet=(), free=()))
        pieces, index, new, states, setting = CASE
        self.assertEqual(line_paper(setting=setting, states=states, new=new, index=index, pieces=pieces),
                         line_paper(*CASE))
        named = line_paper(quiet=('no',), free=(2,), setting=(1, 2), new=new, states=states, pieces=pieces, index=index)
        self.assertTrue(is_line_paper((*CASE[:4], (1, 2)), named, (2,), ('no',)))
        self.assertRaises(TypeError, line_paper, *CASE, ())

    def test_quiet_words(self):
        case = ((OLD,), 0, NEW, (0,), (0,))
        for quiet, form in (((), 'wrong'), (('no',), 'wrong'), (('no', 'yes'), 'true'), (('never',), 'wrong')):
            paper = line_paper(*case, quiet=quiet)
            self.assertEqual(paper[0], form)
            self.assertTrue(is_line_paper(case, paper, (), quiet))

    def test_two_free_pieces(self):
        case = ((LAST, HEARS, NEW), 0, FIRST, (1, 1, 1))
        for setting in itertools.product(range(3), range(2), range(3)):
            paper = line_paper(*case, setting, free=(1, 2))
            self.assertTrue(is_line_paper((*case, setting), paper, (1, 2)))
            self.assertEqual(paper[0] == 'true', setting in places_in_line(*case, free=(1, 2)))


class ConsequencesTest(unittest.TestCase):
    def test_the_piece_itself_again(self):
        for pieces in ((ONCE, COUNT), (LAST, HEARS, NEW), (FIRST, HEARS, OLD), (GAPS,)):
            for past in readings(AB, 3):
                states = line_standing(pieces, past)
                for index in range(len(pieces)):
                    paper = line_paper(pieces, index, pieces[index], states, (states[index],))
                    self.assertEqual(paper, ('true', ()))

    def test_no_right_setting_is_lost(self):
        for case, free in itertools.islice(settings_of(2), 0, None, 5):
            if not free and line_paper(*case)[0] == 'true':
                self.assertEqual(line_paper(*case, quiet=('a', 'x'))[0], 'true')
                others = tuple(at for at in range(len(case[0])) if at != case[1])
                own = tuple(case[3][at] for at in others)
                self.assertEqual(line_paper(*case[:4], (*case[4], *own), free=others)[0], 'true')

    def test_a_line_of_one_piece(self):
        for piece, new in itertools.product((OLD, NEW, FIRST, LAST, GAPS), repeat=2):
            for (state,) in plain_reached((piece,)):
                k = Knowledge((piece,), ((state,),)).extended(new)
                right = [t for t in range(len(new[1])) if line_paper((piece,), 0, new, (state,), (t,))[0] == 'true']
                self.assertEqual(tuple(right), true_states(k, 1))
                self.assertEqual(tuple((t,) for t in right), places_in_line((piece,), 0, new, (state,)))

    def test_a_line_says_what_the_line_of_its_boxes_says(self):
        for pieces, _, _ in cases():
            line = Line(*[Box(piece) for piece in pieces])
            for past in readings(pieces[0][0], 4):
                self.assertEqual(line(past), plain_line_run(pieces, (0,) * len(pieces), past)[1])


class ErrorsTest(unittest.TestCase):
    def refuses(self, expected, *args, **named):
        self.assertEqual(caught(line_paper, *args, **named), expected)

    def test_pieces(self):
        self.refuses((InvalidBox, 'none', -1), (), None, OLD, (), (9,), free=(7,))
        self.refuses((InvalidBox, 'word', 0), (LOUD, HEARS), None, OLD, (9, 9), (9,), free=(7,))
        self.refuses((InvalidBox, 'word', 1), (LAST, HEARS, ALL), 2, NEW, (9, 0, 0), (9,))

    def test_index(self):
        for thing in (*ODD, 2, 3, '', '0', (), (0,)):
            self.refuses((InvalidBox, 'index', thing), (ONCE, ALL), thing, NEW, (9, 9), (9,), free=(9,))

    def test_free(self):
        for index, free, wrong in ((1, (1,), 1), (1, (3,), 3), (1, (0, 0), 0), (1, (2, 0), 0), (0, (1, 2, 3), 3),
                                   (0, (0,), 0), (1, (SIXTY,), SIXTY)):
            self.refuses((InvalidBox, 'free', wrong), CASE[0], index, ALL, (9, 9, 9), (9,) * (1 + len(free)), free=free)

    def test_letters_and_words_of_the_new_line(self):
        self.refuses((InvalidBox, 'letters', -1), CASE[0], 0, HEARS, (9, 9, 9), (9,))
        self.refuses((InvalidBox, 'letters', -1), CASE[0], 0, (('a',), (((0, 'loud'),),)), (9, 9, 9), (9,))
        self.refuses((InvalidBox, 'word', 0), CASE[0], 0, LOUD, (9, 9, 9), (9,))
        self.refuses((InvalidBox, 'word', 0), CASE[0], 1, OLD, (9, 9, 9), (9,))

    def test_states(self):
        for states, wrong in (((2, 0, 0), 2), ((0, 2, 3), 2), ((0, 0, 3), 3), ((0, 0, SIXTY), SIXTY)):
            self.refuses((InvalidState, wrong), CASE[0], 1, DEAF, states, (9,))
        self.refuses((NotReached, (0, 1)), (ONCE, COUNT), 1, ALL, (0, 1), (9,))
        self.refuses((NotReached, (1,)), (GAPS,), 0, OLD, (1,), (0,))

    def test_settings(self):
        for setting, free, wrong in (((2,), (), 2), ((SIXTY,), (), SIXTY), ((2, 9), (0,), 2), ((0, 2), (0,), 2),
                                     ((1, 3), (2,), 3), ((1, 1, 3), (0, 2), 3), ((1, 2, 3), (0, 2), 2)):
            self.refuses((InvalidState, wrong), *CASE[:4], setting, free=free)
            self.refuses((InvalidState, wrong), *CASE[:4], setting, free=free, quiet=('no',))
        # The states are those of the new machine, not of the piece that it replaces.
        self.refuses((InvalidState, 2), (NEW,), 0, OLD, (2,), (2,))
        self.assertIsNone(caught(line_paper, (OLD,), 0, NEW, (1,), (2,)))


if __name__ == '__main__':
    unittest.main()
