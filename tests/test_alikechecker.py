"""[25]: lets_alike, with [4] and [9]."""

import itertools
import unittest

from alwaysnew.alikechecker import lets_alike
from alwaysnew.errors import InvalidPaper, InvalidState
from alwaysnew.running import said
from tests.examples import (FIRST, GAPS, LAST, MACHINES, NEW, ODD, OLD, SIXTY, caught, made_machine, plain_parting,
                            plain_run, readings, small_machines)

YESNO = ('no', 'yes')
# States 0 and 1 are alike, also 2 and 3; a leads the first to the second.
PAIRED = (('a', 'b'), (((2, 'x'), (0, '')), ((3, 'x'), (1, '')), ((3, 'y'), (0, 'x')), ((2, 'y'), (1, 'x'))))
# Letter b leads states 0 and 1 to 2 and 3, letter a to themselves.
LOST = (('a', 'b'), (((0, ''), (2, '')), ((1, ''), (3, '')), ((2, ''), (2, '')), ((3, ''), (3, ''))))
MIXED = (('a', 'b'), (((2, ''), (0, 'x')), ((3, ''), (1, 'y')), ((0, 'z'), (2, '')), ((1, ''), (3, ''))))


def all_papers(states):
    """Return all papers with an ascending tuple of right pairs."""
    pairs = [(p, q) for q in range(states) for p in range(q)]
    return [('alike', chosen) for many in range(len(pairs) + 1)
            for chosen in itertools.combinations(sorted(pairs), many)]


def is_right(machine, one, other, pairs, quiet):
    """Return whether the pairs are an alike paper, by the words of [25]."""
    joined = {*pairs, *[pair[::-1] for pair in pairs], *[(state, state) for state in range(len(machine[1]))]}
    for p, q in pairs:
        for letter in machine[0]:
            after_p, after_q = plain_run(machine, (letter,), p, quiet), plain_run(machine, (letter,), q, quiet)
            if after_p[1] != after_q[1] or (after_p[0], after_q[0]) not in joined:
                return False
    return (one, other) in joined


class AlikeTest(unittest.TestCase):
    def refuses(self, machine, one, other, thing, word, at, quiet=()):
        expected = (InvalidPaper, word, at)
        self.assertEqual(caught(lets_alike, machine, one, other, thing, quiet=quiet), expected, repr(thing)[:100])

    def test_the_examples(self):
        self.assertIs(lets_alike(OLD, 1, 0, ('alike', ((0, 1),))), True)
        self.refuses(NEW, 0, 1, ('alike', ((0, 1),)), 'said', (0, 1))

    def test_by_name(self):
        self.assertIs(lets_alike(quiet=YESNO, thing=('alike', ((0, 1), (0, 2), (1, 2))), other=2, one=0, machine=NEW),
                      True)
        self.assertIs(lets_alike(thing=('apart', ('b',)), other=2, one=0, machine=NEW), False)
        self.assertRaises(TypeError, lets_alike, OLD, 1, 0, ('alike', ((0, 1),)), ())

    def test_equal_states_need_no_pair(self):
        for state in range(3):
            self.assertIs(lets_alike(NEW, state, state, ('alike', ())), True)

    def test_more_pairs_than_needed(self):
        self.assertIs(lets_alike(PAIRED, 3, 2, ('alike', ((0, 1), (2, 3)))), True)
        self.assertIs(lets_alike(PAIRED, 1, 1, ('alike', ((0, 1), (2, 3)))), True)
        self.assertIs(lets_alike(LOST, 2, 3, ('alike', ((0, 1), (2, 3)))), True)
        self.assertIs(lets_alike(LOST, 2, 3, ('alike', ((2, 3),))), True)

    def test_all_papers_of_small_machines(self):
        machines = [made_machine(seed, states=3, words=('', 'x')) for seed in range(12)] + small_machines()
        for machine in [*machines, NEW, FIRST, OLD]:
            states = range(len(machine[1]))
            for quiet, thing in itertools.product(((), ('x',), YESNO), all_papers(len(machine[1]))):
                for one, other in itertools.product(states, states):
                    if is_right(machine, one, other, thing[1], quiet):
                        self.assertIs(lets_alike(machine, one, other, thing, quiet=quiet), True)
                    else:
                        error = caught(lets_alike, machine, one, other, thing, quiet=quiet)
                        self.assertIn(error[1], ('lacks', 'said', 'next'))

    def test_apart(self):
        for machine in [*MACHINES[:6], *[made_machine(seed, words=('', 'x')) for seed in range(5)]]:
            states = range(len(machine[1]))
            for quiet in ((), ('x',), YESNO, ('no', 'x', 'zz')):
                for one, other, reading in itertools.product(states, states, readings(machine[0], 3)):
                    parts = (said(machine, reading, state=one, quiet=quiet)[-1:]
                             != said(machine, reading, state=other, quiet=quiet)[-1:])
                    if parts:
                        self.assertIs(lets_alike(machine, one, other, ('apart', reading), quiet=quiet), False)
                    else:
                        self.refuses(machine, one, other, ('apart', reading), 'same', -1, quiet)

    def test_what_was_said_before_the_last_letter_does_not_count(self):
        self.assertIs(lets_alike(NEW, 0, 1, ('apart', ('b',))), False)
        self.refuses(NEW, 0, 1, ('apart', ('b', 'b')), 'same', -1)
        self.assertIs(lets_alike(FIRST, 1, 2, ('apart', ('a', 'b', 'b'))), False)
        self.refuses(NEW, 0, 1, ('apart', ()), 'same', -1)
        self.refuses(NEW, 1, 1, ('apart', ('b',)), 'same', -1)

    def test_quiet_words(self):
        pairs = ('alike', ((0, 1), (0, 2), (1, 2)))
        self.assertIs(lets_alike(NEW, 0, 2, pairs, quiet=YESNO), True)
        self.assertIs(lets_alike(NEW, 0, 2, pairs, quiet=('maybe', 'no', 'yes')), True)
        self.refuses(NEW, 0, 2, pairs, 'said', (0, 1))
        self.refuses(NEW, 0, 2, pairs, 'said', (0, 1), ('no',))
        self.refuses(NEW, 0, 2, pairs, 'said', (0, 1), ('yes',))
        self.refuses(NEW, 0, 2, ('apart', ('b',)), 'same', -1, ('no',))
        self.assertIs(lets_alike(NEW, 0, 2, ('apart', ('a', 'b')), quiet=('no',)), False)

    def test_shape(self):
        for thing in (*ODD, 0, '', 'alike', (), ('alike',), ('apart',), ('alike', (), ()), ('apart', ('b',), ()),
                      ['alike', ()], ('Alike', ()), ('same', ()), (True, ()), ('alike', None), ('alike', []),
                      ('alike', [(0, 1)]), ('alike', ([0, 1],)), ('alike', ((0,),)), ('alike', ((0, 1, 2),)),
                      ('alike', ((0, 1), 1)), ('alike', ((False, 1),)), ('alike', ((0, True),)), ('alike', ((-1, 1),)),
                      ('alike', ((0, '1'),)), ('alike', ((0, None),)), ('alike', ('ab',)), ('alike', 'ab'),
                      ('alike', ('b',)), ('apart', ((0, 1),)), ('apart', 'b'), ('apart', ['b']), ('apart', ('B',)),
                      ('apart', ('',)), ('apart', ('b', 1)), ('apart', (('b',),)), ('apart', None), ((), 'alike'),
                      (('alike', ()),), ('alike', ((0, 1), (0, 1, 2))), ('', ()), (None, ())):
            self.refuses(NEW, 0, 0, thing, 'shape', -1)
            self.refuses(OLD, 0, 1, thing, 'shape', -1)

    def test_pair(self):
        for pairs, at in ((((1, 0),), 0), (((1, 1),), 0), (((0, 4),), 0), (((0, 1), (0, 1)), 1), (((2, 3), (0, 1)), 1),
                          (((0, 1), (0, 2), (0, 1)), 2), (((0, 1), (2, 1)), 1), (((0, 1), (2, 2)), 1),
                          (((0, 1), (2, 3), (2, 4)), 2), (((4, 5),), 0), (((0, SIXTY),), 0), (((0, 10 ** 80),), 0),
                          (((0, 1), (3, 2), (0, 0)), 1)):
            self.refuses(PAIRED, 0, 1, ('alike', pairs), 'pair', at)

    def test_lacks(self):
        self.refuses(OLD, 0, 1, ('alike', ()), 'lacks', -1)
        self.refuses(OLD, 1, 0, ('alike', ()), 'lacks', -1)
        self.refuses(PAIRED, 0, 1, ('alike', ((2, 3),)), 'lacks', -1)
        self.refuses(PAIRED, 0, 2, ('alike', ((0, 1), (2, 3))), 'lacks', -1)
        self.refuses(PAIRED, 2, 0, ('alike', ((0, 1), (2, 3))), 'lacks', -1)

    def test_next(self):
        self.refuses(PAIRED, 0, 1, ('alike', ((0, 1),)), 'next', (0, 0))
        self.refuses(PAIRED, 2, 3, ('alike', ((2, 3),)), 'next', (0, 1))
        self.refuses(LOST, 0, 1, ('alike', ((0, 1),)), 'next', (0, 1))
        self.refuses(LOST, 0, 1, ('alike', ((0, 1), (0, 2), (1, 3))), 'next', (0, 1))
        self.assertIs(lets_alike(LOST, 0, 1, ('alike', ((0, 1), (2, 3)))), True)

    def test_said(self):
        self.refuses(LAST, 1, 0, ('alike', ((0, 1),)), 'said', (0, 0))
        self.refuses(MIXED, 0, 1, ('alike', ((0, 1), (2, 3))), 'said', (0, 1))
        self.refuses(MIXED, 0, 1, ('alike', ((0, 1), (2, 3))), 'said', (1, 0), ('x', 'y'))
        self.refuses(MIXED, 0, 1, ('alike', ((0, 1), (2, 3))), 'said', (0, 1), ('z',))
        self.assertIs(lets_alike(MIXED, 0, 1, ('alike', ((0, 1), (2, 3))), quiet=('x', 'y', 'z')), True)

    def test_several_at_once(self):
        # Both checks of a letter come before those of the next letter, and said before next.
        self.refuses(MIXED, 0, 1, ('alike', ((0, 1),)), 'next', (0, 0))
        self.refuses(MIXED, 2, 3, ('alike', ((2, 3),)), 'said', (0, 0))
        self.refuses(FIRST, 0, 1, ('alike', ((0, 1),)), 'said', (0, 0))
        self.refuses(MIXED, 0, 2, ('alike', ((0, 1), (2, 3))), 'lacks', -1)
        self.refuses(MIXED, 0, 2, ('alike', ((0, 1), (3, 2))), 'pair', 1)
        self.refuses(MIXED, 0, 2, ('alike', ((0, 1), (3, '2'))), 'shape', -1)

    def test_letter(self):
        self.refuses(NEW, 0, 1, ('apart', ('c',)), 'letter', 0)
        self.refuses(NEW, 0, 1, ('apart', ('b', 'ab', 'zz')), 'letter', 1)
        self.refuses(NEW, 0, 1, ('apart', ('a', 'b', 'b', 'no')), 'letter', 3)
        self.refuses(NEW, 1, 1, ('apart', ('c',)), 'letter', 0)

    def test_states_that_are_none_come_first(self):
        for thing in (*ODD, 3, '', 'a'):
            for paper in (None, ('alike', ()), ('apart', ('c',)), ('alike', ((0, 9),))):
                self.assertEqual(caught(lets_alike, NEW, thing, 0, paper), (InvalidState, thing))
                self.assertEqual(caught(lets_alike, NEW, 0, thing, paper), (InvalidState, thing))
                self.assertEqual(caught(lets_alike, NEW, thing, 99, paper), (InvalidState, thing))

    def test_right_papers_exist_for_alike_states_only(self):
        for machine in [made_machine(seed, states=4, words=('', 'x')) for seed in range(20)] + [GAPS, PAIRED]:
            states = range(len(machine[1]))
            pairs = [(p, q) for q in states for p in range(q) if plain_parting(machine, p, q) is None]
            for one, other in itertools.product(states, states):
                reading = plain_parting(machine, one, other)
                alike = ('alike', tuple(sorted(pairs)))
                if reading is None:
                    self.assertIs(lets_alike(machine, one, other, alike), True)
                else:
                    self.assertIs(lets_alike(machine, one, other, ('apart', reading)), False)
                    self.refuses(machine, one, other, alike, 'lacks', -1)


if __name__ == '__main__':
    unittest.main()
