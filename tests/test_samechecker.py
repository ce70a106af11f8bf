"""[29]: lets_same, with [4] and [9]."""

import itertools
import unittest

from alwaysnew.errors import InvalidPaper
from alwaysnew.running import said
from alwaysnew.samechecker import lets_same
from tests.examples import (FIRST, GAPS, LAST, LATE, LONE, NEW, ODD, OLD, SIXTY, THREE, caught, changed_rows,
                            made_machine, plain_parting_past, plain_reached, plain_run, readings, small_machines)

YESNO = ('no', 'yes')
# Letter a leads both to state 1, where both say the same by b.
PLAIN = (('a', 'b'), (((1, ''), (0, 'x')), ((1, ''), (0, 'y'))))
TWICE = (('a', 'b'), (((1, ''), (2, 'x')), ((1, ''), (0, 'y')), ((1, ''), (0, 'x'))))
# It says other words in state 1 only, which is its last one.
OTHER = (('a', 'b'), (((1, ''), (0, 'x')), ((0, 'z'), (1, ''))))


def is_right(one, other, pairs, quiet):
    """Return whether pairs are a same paper, by the words of [29]."""
    for p, q in pairs:
        for letter in one[0]:
            after_p, after_q = plain_run(one, (letter,), p, quiet), plain_run(other, (letter,), q, quiet)
            if after_p[1] != after_q[1] or (after_p[0], after_q[0]) not in pairs:
                return False
    return (0, 0) in pairs


def all_pairs(one, other):
    """Return all ascending tuples of pairs of states of both."""
    pairs = list(itertools.product(range(len(one[1])), range(len(other[1]))))
    return [chosen for many in range(len(pairs) + 1) for chosen in itertools.combinations(pairs, many)]


class SameTest(unittest.TestCase):
    def refuses(self, one, other, thing, word, at, quiet=()):
        expected = (InvalidPaper, word, at)
        self.assertEqual(caught(lets_same, one, other, thing, quiet=quiet), expected, repr(thing)[:100])

    def test_the_examples(self):
        self.assertIs(lets_same(OLD, NEW, ('same', ((0, 0), (0, 2), (1, 1), (1, 2))), quiet=YESNO), True)
        self.assertIs(lets_same(OLD, NEW, ('apart', ('a', 'b'))), False)

    def test_by_name(self):
        pairs = ((0, 0), (0, 2), (1, 1), (1, 2))
        self.assertIs(lets_same(quiet=YESNO, thing=('same', pairs), other=NEW, one=OLD), True)
        self.assertIs(lets_same(thing=('apart', ('b',)), other=NEW, one=OLD), False)
        self.assertRaises(TypeError, lets_same, OLD, NEW, ('same', pairs), YESNO)

    def test_all_papers_of_small_machines(self):
        counts = {True: 0, False: 0}
        groups = [(one, other) for one in small_machines() for other in small_machines()]
        groups += [(OLD, PLAIN), (PLAIN, PLAIN), (PLAIN, TWICE), (TWICE, PLAIN), (OLD, OLD), (OLD, NEW)]
        for (one, other), quiet in itertools.product(groups, ((), ('x',), ('no', 'x', 'yes'))):
            for pairs in all_pairs(one, other):
                right = is_right(one, other, pairs, quiet)
                counts[right] += 1
                if right:
                    self.assertIs(lets_same(one, other, ('same', pairs), quiet=quiet), True)
                else:
                    error = caught(lets_same, one, other, ('same', pairs), quiet=quiet)
                    self.assertIn(error[1], ('lacks', 'said', 'next'))
        self.assertGreater(min(counts.values()), 50)

    def test_apart(self):
        machines = [OLD, NEW, FIRST, LAST, GAPS, made_machine(1, words=('', 'x')), made_machine(2, words=('', 'x'))]
        for one, other, quiet in itertools.product(machines, machines, ((), ('x',), YESNO, ('no', 'x', 'zz'))):
            for past in readings(('a', 'b'), 4):
                if said(one, past, quiet=quiet)[-1:] != said(other, past, quiet=quiet)[-1:]:
                    self.assertIs(lets_same(one, other, ('apart', past), quiet=quiet), False)
                else:
                    self.refuses(one, other, ('apart', past), 'same', -1, quiet)

    def test_only_the_last_word_counts(self):
        self.assertIs(lets_same(OLD, NEW, ('apart', ('b',))), False)
        self.refuses(OLD, NEW, ('apart', ('b', 'b')), 'same', -1)
        self.refuses(OLD, NEW, ('apart', ()), 'same', -1)
        self.refuses(NEW, NEW, ('apart', ('b',)), 'same', -1)
        self.refuses(OLD, NEW, ('apart', ('b',)), 'same', -1, ('no',))
        self.assertIs(lets_same(OLD, NEW, ('apart', ('a', 'b')), quiet=('no',)), False)

    def test_shape(self):
        for thing in (*ODD, 0, '', 'same', (), ('same',), ('apart',), ('same', (), ()), ('apart', ('b',), ()),
                      ['same', ()], ('Same', ()), ('alike', ()), ('alike', ((0, 0),)), (True, ()), ('same', None),
                      ('same', []), ('same', [(0, 0)]), ('same', ([0, 0],)), ('same', ((0,),)), ('same', ((0, 0, 0),)),
                      ('same', ((0, 0), 1)), ('same', ((False, 0),)), ('same', ((0, True),)), ('same', ((-1, 0),)),
                      ('same', ((0, '1'),)), ('same', ((0, None),)), ('same', ('ab',)), ('same', 'ab'),
                      ('same', ('b',)), ('apart', ((0, 1),)), ('apart', 'b'), ('apart', ['b']), ('apart', ('B',)),
                      ('apart', ('',)), ('apart', ('b', 1)), ('apart', (('b',),)), ('apart', None), ((), 'same'),
                      (('same', ()),), ('same', ((0, 0), (0, 1, 2))), ('', ()), (None, ())):
            self.refuses(OLD, OLD, thing, 'shape', -1)
            self.refuses(OLD, NEW, thing, 'shape', -1)

    def test_pair(self):
        for pairs, at in ((((2, 0),), 0), (((0, 3),), 0), (((0, 0), (0, 0)), 1), (((0, 0), (1, 1), (0, 2)), 2),
                          (((0, 0), (0, 2), (0, 1)), 2), (((0, 2), (0, 0)), 1), (((SIXTY, 0),), 0),
                          (((0, 0), (1, SIXTY)), 1), (((0, 0), (1, 10 ** 80)), 1), (((0, 0), (1, 3), (2, 0)), 1),
                          (((0, 1), (2, 2)), 1), (((1, 1), (1, 0), (9, 9)), 1)):
            self.refuses(OLD, NEW, ('same', pairs), 'pair', at)
        # The numbers of states are those of the two machines, each for itself.
        self.refuses(OLD, NEW, ('same', ((0, 0), (2, 1))), 'pair', 1)
        self.refuses(NEW, OLD, ('same', ((0, 0), (1, 2))), 'pair', 1)
        self.refuses(NEW, OLD, ('same', ((2, 1),)), 'lacks', -1)
        self.refuses(OLD, NEW, ('same', ((1, 2),)), 'lacks', -1)

    def test_lacks(self):
        for pairs in ((), ((0, 1),), ((0, 1), (1, 0)), ((1, 1),)):
            self.refuses(OLD, OLD, ('same', pairs), 'lacks', -1)
            self.refuses(PLAIN, TWICE, ('same', pairs), 'lacks', -1)

    def test_pairs_with_equal_numbers_must_be_listed(self):
        self.refuses(OLD, OLD, ('same', ()), 'lacks', -1)
        self.refuses(OLD, OLD, ('same', ((0, 0),)), 'next', (0, 0))
        self.assertIs(lets_same(OLD, OLD, ('same', ((0, 0), (1, 1)))), True)
        self.refuses(PLAIN, TWICE, ('same', ((0, 0), (0, 2))), 'next', (0, 0))
        self.assertIs(lets_same(PLAIN, TWICE, ('same', ((0, 0), (0, 2), (1, 1)))), True)

    def test_pairs_may_not_be_turned_round(self):
        machine = (('a',), (((1, ''),), ((0, ''),)))
        other = (('a',), (((1, ''),), ((2, ''),), ((1, ''),)))
        self.assertIs(lets_same(machine, other, ('same', ((0, 0), (0, 2), (1, 1)))), True)
        # With (2, 1) in place of (1, 2) it would be a paper for the machines turned round.
        self.assertIs(lets_same(other, machine, ('same', ((0, 0), (1, 1), (2, 0)))), True)
        self.refuses(other, machine, ('same', ((0, 0), (0, 1), (1, 1))), 'next', (1, 0))
        self.refuses(machine, other, ('same', ((0, 0), (1, 0), (1, 1))), 'next', (1, 0))

    def test_next(self):
        self.refuses(PLAIN, TWICE, ('same', ((0, 0), (1, 1))), 'next', (0, 1))
        self.refuses(PLAIN, TWICE, ('same', ((0, 0), (0, 2), (1, 0), (1, 2))), 'next', (0, 0))
        self.refuses(OLD, NEW, ('same', ((0, 0), (0, 2), (1, 1))), 'next', (1, 0), YESNO)
        self.refuses(OLD, NEW, ('same', ((0, 0), (0, 2), (1, 2))), 'next', (0, 0), YESNO)

    def test_said(self):
        self.refuses(OLD, NEW, ('same', ((0, 0), (0, 2), (1, 1), (1, 2))), 'said', (0, 1))
        self.refuses(OLD, NEW, ('same', ((0, 0), (0, 2), (1, 1), (1, 2))), 'said', (2, 1), ('no',))
        self.refuses(OLD, NEW, ('same', ((0, 0), (0, 2), (1, 1), (1, 2))), 'said', (0, 1), ('yes',))
        self.refuses(PLAIN, OTHER, ('same', ((0, 0), (1, 1))), 'said', (1, 0))
        self.refuses(PLAIN, TWICE, ('same', ((0, 0), (0, 1), (0, 2), (1, 1))), 'said', (1, 1))
        self.assertIs(lets_same(NEW, OLD, ('same', ((0, 0), (1, 1), (2, 0), (2, 1))), quiet=('maybe', *YESNO)), True)

    def test_several_at_once(self):
        # Both checks of a letter come before those of the next letter, and said before next.
        self.refuses(PLAIN, OTHER, ('same', ((0, 0),)), 'next', (0, 0))
        self.refuses(PLAIN, OTHER, ('same', ((0, 0), (1, 1))), 'said', (1, 0))
        self.refuses(LATE, LONE, ('same', ((0, 0), (1, 0))), 'said', (1, 0))
        self.refuses(LAST, OLD, ('same', ((0, 0), (1, 0))), 'said', (0, 0))
        self.refuses(LAST, OLD, ('same', ((1, 0),)), 'lacks', -1)
        self.refuses(LAST, OLD, ('same', ((1, 0), (2, 0))), 'pair', 1)
        self.refuses(LAST, OLD, ('same', ((1, 0), (2, False))), 'shape', -1)

    def test_letter(self):
        self.refuses(OLD, NEW, ('apart', ('c',)), 'letter', 0)
        self.refuses(OLD, NEW, ('apart', ('b', 'ab', 'zz')), 'letter', 1)
        self.refuses(OLD, NEW, ('apart', ('a', 'b', 'b', 'no')), 'letter', 3)
        self.refuses(OLD, OLD, ('apart', ('b', 'same')), 'letter', 1)

    def test_states_that_are_not_reached_may_be_listed(self):
        pairs = tuple((state, state) for state in range(5))
        self.assertIs(lets_same(GAPS, GAPS, ('same', pairs)), True)
        self.assertIs(lets_same(GAPS, GAPS, ('same', ((0, 0), (2, 2), (4, 4)))), True)
        self.assertIs(lets_same(GAPS, GAPS, ('same', ((0, 0), (1, 2), (2, 2), (4, 4)))), True)
        self.refuses(GAPS, GAPS, ('same', ((0, 0), (2, 2), (3, 3), (3, 4), (4, 4))), 'said', (3, 0))

    def test_right_papers_exist_exactly_for_machines_that_say_the_same(self):
        for machine in (OLD, NEW, FIRST, GAPS, THREE):
            for other in (machine, *changed_rows(machine)):
                pairs = ('same', tuple(sorted(plain_reached((machine, other)))))
                past = plain_parting_past(machine, other)
                if past is None:
                    self.assertIs(lets_same(machine, other, pairs), True)
                else:
                    self.assertIs(lets_same(machine, other, ('apart', past)), False)
                    self.assertEqual(caught(lets_same, machine, other, pairs)[1], 'said')


if __name__ == '__main__':
    unittest.main()
