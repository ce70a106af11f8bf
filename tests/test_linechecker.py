"""[45] and [46], with the errors of [43] and [44]: lets_line."""

import itertools
import unittest

from alwaysnew.errors import InvalidBox, InvalidPaper, InvalidState, NotReached
from alwaysnew.linechecker import lets_line
from alwaysnew.linepapers import line_paper
from alwaysnew.linesettings import places_in_line
from tests.examples import (ALL, COUNT, FIRST, GAPS, LAST, NEW, ODD, OLD, ONCE, SIXTY, caught, readings,
                            standings_of)
from tests.lineexamples import AB, DEAF, HEARS, LOUD, XY, is_line_paper, settings_of

COUNTED = ((ONCE, ALL), 1, COUNT, (1, 0))
BEGUN = ((ONCE, ALL), 1, COUNT, (0, 0), (1,))
PAIR = ((1, 0), (1, 1))
# The old machine is in its only state, the new one in any of three, which are alike if yes and no are quiet.
ONE = ((AB, (((0, ''), (0, '')),)),)
WIDE = (ONE, 0, NEW, (0,))
# States 0 and 1 say the same by a, and lead to 2 and 3; by b they lead to one another.
TWISTED = (AB, (((2, 'x'), (1, '')), ((3, 'x'), (0, '')), ((2, ''), (3, '')), ((3, ''), (3, 'y'))))


class LineTest(unittest.TestCase):
    def refuses(self, case, thing, word, at, **named):
        expected = (InvalidPaper, word, at)
        self.assertEqual(caught(lets_line, *case, thing, **named), expected, repr(thing)[:100])

    def test_the_examples(self):
        self.assertIs(lets_line((ONCE, ALL), 1, COUNT, (0, 0), (1,), ('wrong', (), ('b',))), False)
        self.assertIs(lets_line((ONCE, ALL), 1, COUNT, (1, 0), (0,), ('true', (((1, 0), (1, 1)),))), True)

    def test_by_name(self):
        self.assertIs(lets_line(thing=('true', (PAIR,)), setting=(0,), states=(1, 0), new=COUNT, index=1,
                                pieces=(ONCE, ALL)), True)
        self.assertIs(lets_line(quiet=('x',), free=(0,), thing=('true', ()), setting=(1, 1), states=(1, 0), new=COUNT,
                                index=1, pieces=(ONCE, ALL)), True)
        self.assertRaises(TypeError, lets_line, *COUNTED, (0,), ('true', (PAIR,)), ())

    def test_papers_for_each_setting(self):
        counts = {True: 0, False: 0}
        for case, free in itertools.islice(settings_of(3), 0, None, 7):
            for quiet in ((), ('a', 'x')):
                paper = line_paper(*case, free=free, quiet=quiet)
                right = case[4] in places_in_line(*case[:4], free=free, quiet=quiet)
                self.assertIs(lets_line(*case, paper, free=free, quiet=quiet), right)
                counts[right] += 1
                if not right:
                    continue
                for at in range(len(paper[1])):
                    fewer = ('true', paper[1][:at] + paper[1][at + 1:])
                    if is_line_paper(case, fewer, free, quiet):
                        self.assertIs(lets_line(*case, fewer, free=free, quiet=quiet), True)
                    else:
                        found = caught(lets_line, *case, fewer, free=free, quiet=quiet)
                        self.assertIn(found[1], ('lacks', 'next'))
        self.assertGreater(min(counts.values()), 50)

    def test_all_sets_of_pairs(self):
        counts = {True: 0, False: 0}
        cases = [((*COUNTED, setting), ()) for setting in ((0,), (1,))]
        cases += [((*COUNTED, setting), (0,)) for setting in itertools.product((0, 1), repeat=2)]
        cases += [((*WIDE, (t,)), ()) for t in range(3)] + [((ONE, 0, TWISTED, (0,), (t,)), ()) for t in range(4)]
        for (case, free), quiet in itertools.product(cases, ((), ('no', 'yes'), ('x', 'y'))):
            line = (*case[0][:case[1]], case[2], *case[0][case[1] + 1:])
            pairs = list(itertools.combinations(standings_of(line), 2))
            for many in range(len(pairs) + 1):
                for chosen in itertools.combinations(pairs, many):
                    right = is_line_paper(case, ('true', chosen), free, quiet)
                    counts[right] += 1
                    if right:
                        self.assertIs(lets_line(*case, ('true', chosen), free=free, quiet=quiet), True)
                    else:
                        found = caught(lets_line, *case, ('true', chosen), free=free, quiet=quiet)
                        self.assertIn(found[1], ('lacks', 'said', 'next'))
        self.assertGreater(min(counts.values()), 30)

    def test_all_short_papers_with_wrong(self):
        counts = {True: 0, False: 0}
        for case, free in itertools.islice(settings_of(2), 0, None, 13):
            for past, reading in itertools.product(readings(case[0][0][0], 2), repeat=2):
                for quiet in ((), ('a', 'x')):
                    thing = ('wrong', past, reading)
                    right = is_line_paper(case, thing, free, quiet)
                    counts[right] += 1
                    if right:
                        self.assertIs(lets_line(*case, thing, free=free, quiet=quiet), False)
                    else:
                        found = caught(lets_line, *case, thing, free=free, quiet=quiet)
                        self.assertIn(found, ((InvalidPaper, 'past', -1), (InvalidPaper, 'reading', -1)))
        self.assertGreater(min(counts.values()), 100)

    def test_shape(self):
        for thing in (*ODD, 0, '', 'true', (), ('true',), ('true', (), ()), ['true', ()], ('True', ()), ('same', ()),
                      ('true', []), ('true', None), ('true', 'ab'), ('true', [PAIR]), ('true', (list(PAIR),)),
                      ('true', (PAIR[:1],)), ('true', ((*PAIR, (1, 1)),)), ('true', ((1, 0),)), ('true', (PAIR, 1)),
                      ('true', (((1, 0), [1, 1]),)), ('true', (((1, 0), (1, True)),)), ('true', (((1, -1), (1, 0)),)),
                      ('true', (((1, False), (1, 1)),)), ('true', (((1, 0), (1, '1')),)),
                      ('true', (((1, 0), (1, None)),)), ('true', (('ab', 'cd'),)), ('true', (((1, 0), None),)),
                      ('wrong',), ('wrong', ()), ('wrong', ('b',)), ('wrong', (), (), ()), ['wrong', (), ()],
                      ('wrong', [], ('b',)), ('wrong', (), ['b']), ('wrong', 'b', ('b',)), ('wrong', (), 'b'),
                      ('wrong', ('B',), ()), ('wrong', (), ('',)), ('wrong', (1,), ()), ('wrong', (), (('b',),)),
                      ('Wrong', (), ('b',)), (True, ()), ((), 'true')):
            self.refuses(BEGUN, thing, 'shape', -1)
            self.refuses((*COUNTED, (0,)), thing, 'shape', -1, free=(), quiet=('x',))

    def test_pair(self):
        for pairs, at in ((((PAIR[1], PAIR[0]),), 0), (((PAIR[0], PAIR[0]),), 0), ((PAIR, PAIR), 1),
                          (((PAIR[0], (1, 2)),), 0), (((PAIR[0], (2, 0)),), 0), ((((0, 0), (0,)),), 0),
                          ((((0,), (1,)),), 0), ((((0, 0), (0, 0, 0)),), 0), ((((), (0, 0)),), 0),
                          ((PAIR, ((0, 0), (1, 1))), 1), ((((0, 0), (1, SIXTY)),), 0), ((((0, 0), (1, 10 ** 80)),), 0),
                          ((((0, 0), (0, 1)), ((0, 1), (0, 0)), ((0, 0), (0, 0))), 1)):
            self.refuses((*COUNTED, (0,)), ('true', pairs), 'pair', at)
            self.refuses((*COUNTED, (1,)), ('true', pairs), 'pair', at)
        # The standings are those of the new line.
        self.refuses(((ONCE, COUNT), 1, ALL, (1, 1), (0,)), ('true', (((1, 0), (1, 1)),)), 'pair', 0)

    def test_lacks(self):
        self.refuses((*COUNTED, (0,)), ('true', ()), 'lacks', 0)
        self.refuses((*COUNTED, (0,)), ('true', (((0, 0), (1, 1)),)), 'lacks', 0)
        self.assertIs(lets_line(*COUNTED, (1,), ('true', ())), True)
        # New standing n, the first such: the new standings are 0, 1 and 2 here.
        quiet = ('no', 'yes')
        pairs = (((0,), (1,)), ((0,), (2,)), ((1,), (2,)))
        for t in range(3):
            self.assertIs(lets_line(*WIDE, (t,), ('true', pairs), quiet=quiet), True)
        self.refuses((*WIDE, (0,)), ('true', pairs[:1]), 'lacks', 2, quiet=quiet)
        self.refuses((*WIDE, (0,)), ('true', pairs[1:]), 'lacks', 1, quiet=quiet)
        self.refuses((*WIDE, (0,)), ('true', ()), 'lacks', 1, quiet=quiet)
        self.refuses((*WIDE, (1,)), ('true', pairs[1:]), 'lacks', 0, quiet=quiet)
        self.refuses((*WIDE, (1,)), ('true', pairs[:2]), 'lacks', 2, quiet=quiet)
        self.refuses((*WIDE, (2,)), ('true', pairs[:2]), 'lacks', 1, quiet=quiet)
        self.refuses((*WIDE, (2,)), ('true', ()), 'lacks', 0)

    def test_said_and_next(self):
        pairs = (((0,), (1,)), ((0,), (2,)), ((1,), (2,)))
        self.refuses((*WIDE, (0,)), ('true', pairs), 'said', (0, 1))
        self.refuses((*WIDE, (0,)), ('true', pairs), 'said', (0, 1), quiet=('no',))
        self.refuses((*WIDE, (2,)), ('true', pairs), 'said', (0, 1), quiet=('yes',))
        self.refuses((*BEGUN[:3], (0, 0), (1,)), ('true', (((0, 0), (0, 1)),)), 'said', (0, 1))
        # Both checks of a letter come before those of the next letter, and said before next.
        twisted = (ONE, 0, TWISTED, (0,), (0,))
        ends = (((0,), (1,)), ((0,), (2,)), ((0,), (3,)))
        self.refuses(twisted, ('true', ends), 'next', (0, 0))
        self.refuses(twisted, ('true', (*ends, ((2,), (3,)))), 'said', (1, 0))
        self.refuses(twisted, ('true', (*ends, ((2,), (3,)))), 'next', (1, 1), quiet=('x',))
        self.refuses(twisted, ('true', (*ends, ((1,), (3,)), ((2,), (3,)))), 'said', (2, 1), quiet=('x',))
        self.assertIs(lets_line(*twisted, ('true', tuple(itertools.combinations(((0,), (1,), (2,), (3,)), 2))),
                                quiet=('x', 'y')), True)

    def test_next_of_free_pieces(self):
        # The new standing is (1, 1); the setting has the state of the new machine first, then that of ONCE.
        self.assertIs(lets_line(*COUNTED, (1, 1), ('true', ()), free=(0,)), True)
        self.assertIs(lets_line(*COUNTED, (0, 1), ('true', (PAIR,)), free=(0,)), True)
        self.refuses((*COUNTED, (0, 1)), ('true', (((0, 1), (1, 1)),)), 'lacks', 0, free=(0,))
        self.refuses((*COUNTED, (1, 0)), ('true', (PAIR,)), 'lacks', 0, free=(0,))
        self.refuses((*COUNTED, (0, 0)), ('true', (((0, 0), (1, 1)),)), 'said', (0, 1), free=(0,))
        self.assertIs(lets_line(*COUNTED, (0, 0), ('true', (((0, 0), (1, 1)),)), free=(0,), quiet=('x',)), True)
        # From (0, 1) letter b leads to (1, 0), from (1, 1) to (1, 1).
        self.refuses((*COUNTED, (1, 0)), ('true', (((0, 1), (1, 1)),)), 'next', (0, 1), free=(0,))
        self.assertIs(lets_line(*COUNTED, (1, 0), ('true', (((0, 1), (1, 1)), PAIR)), free=(0,)), True)

    def test_what_the_pieces_say_to_one_another_does_not_count(self):
        loud = (AB, (((0, 'y'), (0, 'x')),))
        case = ((LAST, (XY, (((0, ''), (0, '')),))), 0, loud, (0, 0), (0,))
        self.assertIs(lets_line(*case, ('true', ())), True)
        case = ((FIRST, (XY, (((0, ''), (0, '')),))), 0, LAST, (1, 0), (1,))
        self.assertIs(lets_line(*case, ('true', (((0, 0), (1, 0)),))), True)
        self.refuses(case, ('true', ()), 'lacks', 0)

    def test_several_at_once(self):
        self.refuses((*WIDE, (0,)), ('true', (((0,), (1,)), ((1,), (1,)))), 'pair', 1)
        self.refuses((*WIDE, (0,)), ('true', (((0,), (1,)),)), 'lacks', 2)
        self.refuses((*WIDE, (0,)), ('true', (((0,), (1,)), ((1,), True))), 'shape', -1)
        self.refuses(BEGUN, ('wrong', ('b',), ()), 'past', -1)
        self.refuses(BEGUN, ('wrong', ('c',), ('c',)), 'past', -1)
        self.refuses(BEGUN, ('wrong', ('c',), ('C',)), 'shape', -1)

    def test_past(self):
        for past in (('c',), ('a', 'b'), ('b',), ('zz',), ('go',), ('a', 'c')):
            self.refuses(BEGUN, ('wrong', past, ('b',)), 'past', -1)
        self.assertIs(lets_line(*BEGUN, ('wrong', ('a', 'a'), ('b',))), False)
        # It leads the line to the states, not the new line to the set standing.
        case = ((ONCE, COUNT), 1, ALL, (1, 1), (0,))
        self.refuses(case, ('wrong', (), ('b',)), 'past', -1)
        self.refuses(case, ('wrong', ('b',), ('b',)), 'reading', -1)

    def test_reading(self):
        for reading in ((), ('a',), ('c',), ('b', 'c'), ('c', 'b'), ('b', 'b'), ('go',), ('x',)):
            self.refuses(BEGUN, ('wrong', (), reading), 'reading', -1)
        self.refuses(BEGUN, ('wrong', (), ('b',)), 'reading', -1, quiet=('x',))
        self.assertIs(lets_line(*BEGUN, ('wrong', (), ('b',)), quiet=('go',)), False)
        self.assertIs(lets_line(*BEGUN, ('wrong', (), ('a', 'b'))), False)
        self.refuses((*BEGUN[:4], (0,)), ('wrong', (), ('b',)), 'reading', -1)


class ErrorsTest(unittest.TestCase):
    THINGS = (None, ('true', ()), ('wrong', ('c',), ()), ('true', (PAIR, PAIR)))

    def refuses(self, expected, *args, **named):
        for thing in self.THINGS:
            self.assertEqual(caught(lets_line, *args, thing, **named), expected)

    def test_errors_of_the_line_come_first(self):
        pieces = (LAST, HEARS, NEW)
        self.refuses((InvalidBox, 'none', -1), (), None, OLD, (), (9,), free=(7,))
        self.refuses((InvalidBox, 'word', 0), (LOUD, HEARS), None, OLD, (9, 9), (9,), free=(7,))
        for thing in (*ODD, 2, '0', (), (0,)):
            self.refuses((InvalidBox, 'index', thing), (ONCE, ALL), thing, NEW, (9, 9), (9,), free=(9,))
        for free, wrong in (((1,), 1), ((3,), 3), ((0, 0), 0), ((2, 0), 0), ((SIXTY,), SIXTY)):
            self.refuses((InvalidBox, 'free', wrong), pieces, 1, ALL, (9, 9, 9), (9,) * (1 + len(free)), free=free)
        self.refuses((InvalidBox, 'letters', -1), pieces, 0, HEARS, (9, 9, 9), (9,))
        self.refuses((InvalidBox, 'word', 0), pieces, 1, OLD, (9, 9, 9), (9,))
        self.refuses((InvalidState, 3), pieces, 1, DEAF, (1, 1, 3), (9,))
        self.refuses((NotReached, (0, 1)), (ONCE, COUNT), 1, ALL, (0, 1), (9,))
        self.refuses((NotReached, (1,)), (GAPS,), 0, OLD, (1,), (9,))

    def test_errors_of_the_setting_come_next(self):
        for setting, free, wrong in (((2,), (), 2), ((SIXTY,), (), SIXTY), ((2, 9), (0,), 2), ((0, 2), (0,), 2),
                                     ((1, 1, 3), (0, 2), 3)):
            self.refuses((InvalidState, wrong), (LAST, HEARS, NEW), 1, DEAF, (1, 1, 1), setting, free=free)


if __name__ == '__main__':
    unittest.main()
