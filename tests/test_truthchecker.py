"""[40]: lets_truth."""

import itertools
import unittest

from alwaysnew.errors import InvalidKnowledge, InvalidPaper, InvalidState
from alwaysnew.knowledge import Knowledge
from alwaysnew.truthchecker import lets_truth
from alwaysnew.truthpapers import truth_paper
from tests.examples import (DEEP, FIRST, GAPS, LATE, NEW, ODD, OLD, SIXTY, caught, known, plain_after, plain_run,
                            readings, version_groups)

YESNO = ('no', 'yes')
KNOWN = Knowledge((OLD,), ((0,),)).extended(NEW)
READY = KNOWN('b')
# States 0 and 1 are alike, and so are 2 and 3; the pasts lead to all of them.
PAIRED = (('a', 'b'), (((2, 'x'), (1, '')), ((3, 'x'), (0, '')), ((3, 'y'), (2, 'x')), ((2, 'y'), (3, 'x'))))
PAIR = ('alike', ((0, 1), (2, 3)))
UPPER = ('alike', ((2, 3),))


class TruthTest(unittest.TestCase):
    def refuses(self, k, i, t, thing, word, at, quiet=()):
        expected = (InvalidPaper, word, at)
        self.assertEqual(caught(lets_truth, k, i, t, thing, quiet=quiet), expected, repr(thing)[:100])

    def test_the_examples(self):
        self.assertIs(lets_truth(READY, 1, 2, ('true', (('alike', ()),))), True)
        self.assertIs(lets_truth(KNOWN, 1, 0, ('wrong', ('b',), ('b',))), False)
        self.refuses(KNOWN, 1, 0, ('wrong', (), ('b',)), 'reading', -1)

    def test_by_name(self):
        self.assertIs(lets_truth(thing=('true', (('alike', ()),)), t=2, i=1, k=READY), True)
        pairs = ('alike', ((0, 1), (0, 2), (1, 2)))
        self.assertIs(lets_truth(quiet=YESNO, thing=('true', (pairs, pairs)), t=1, i=1, k=KNOWN), True)
        self.assertIs(lets_truth(quiet=YESNO, thing=('true', (('alike', ()), pairs)), t=0, i=1, k=KNOWN), True)
        self.assertIs(lets_truth(thing=('wrong', ('b',), ('b',)), t=0, i=1, k=KNOWN), False)
        self.assertRaises(TypeError, lets_truth, READY, 1, 2, ('true', (('alike', ()),)), ())

    def test_all_short_papers_with_wrong(self):
        counts = {True: 0, False: 0}
        for k in [one for one in known(version_groups()) if one.versions[0][0] == ('a', 'b')][::3]:
            i = len(k.versions) - 1
            machine = k.versions[i]
            for t, quiet in itertools.product(range(len(machine[1])), ((), ('x',))):
                for past, reading in itertools.product(readings(('a', 'b'), 2), repeat=2):
                    standing = plain_after(k.versions, past)
                    if standing not in k.standings:
                        self.refuses(k, i, t, ('wrong', past, reading), 'past', -1, quiet)
                        continue
                    words = [plain_run(machine, reading, state, quiet)[1][-1:] for state in (t, standing[i])]
                    counts[words[0] != words[1]] += 1
                    if words[0] == words[1]:
                        self.refuses(k, i, t, ('wrong', past, reading), 'reading', -1, quiet)
                    else:
                        self.assertIs(lets_truth(k, i, t, ('wrong', past, reading), quiet=quiet), False)
        self.assertGreater(min(counts.values()), 200)

    def test_shape(self):
        for thing in (*ODD, 0, '', 'true', (), ('true',), ('true', ()) * 2, ('true', (), ()), ['true', ()],
                      ('true', []), ('true', None), ('true', 'alike'), ('True', ()), (True, ()), ((), 'true'),
                      (('true', ()),), ('alike', ()), ('apart', ('b',)), ('wrong',), ('wrong', ()), ('wrong', ('b',)),
                      ('wrong', (), (), ()), ['wrong', (), ()], ('wrong', [], ('b',)), ('wrong', ('b',), ['b']),
                      ('wrong', 'b', ('b',)), ('wrong', ('b',), 'b'), ('wrong', ('B',), ('b',)),
                      ('wrong', ('b',), ('',)), ('wrong', ('b', 1), ('b',)), ('wrong', ('b',), (('b',),)),
                      ('wrong', None, ('b',)), ('Wrong', (), ('b',)), (False, ('b',), ('b',)), KNOWN, (KNOWN, ()),
                      (KNOWN, (), ())):
            for k, i, t in ((READY, 1, 2), (KNOWN, 1, 0), (KNOWN, 0, 1)):
                self.refuses(k, i, t, thing, 'shape', -1)

    def test_many(self):
        alike = ('alike', ())
        for papers in ((), (alike, alike), (None, None), (alike, alike, alike)):
            self.refuses(READY, 1, 2, ('true', papers), 'many', -1)
        for papers in ((), (alike,), (alike, alike, alike), (None, None, None)):
            self.refuses(KNOWN, 1, 0, ('true', papers), 'many', -1)
        # There are four standings, but two states of version 0.
        k = Knowledge.any_past(OLD, NEW)
        self.refuses(k, 0, 0, ('true', (alike,) * 4), 'many', -1)
        self.assertIs(lets_truth(k, 0, 0, ('true', (alike, ('alike', ((0, 1),))))), True)

    def test_alike(self):
        k = Knowledge((PAIRED,), ((0,), (1,)))
        self.assertIs(lets_truth(k, 0, 0, ('true', (PAIR, PAIR))), True)
        self.assertIs(lets_truth(k, 0, 1, ('true', (PAIR, UPPER))), True)
        self.assertIs(lets_truth(k, 0, 0, ('true', (('alike', ()), PAIR))), True)
        # The papers of the states in another order, those of other states, and those of another t.
        self.refuses(k, 0, 0, ('true', (PAIR, UPPER)), 'alike', 1)
        self.refuses(k, 0, 1, ('true', (UPPER, PAIR)), 'alike', 0)
        self.refuses(k, 0, 0, ('true', (PAIR, ('alike', ()))), 'alike', 1)
        self.refuses(k, 0, 2, ('true', (UPPER, UPPER)), 'alike', 0)
        self.refuses(k, 0, 2, ('true', (PAIR, PAIR)), 'alike', 0)
        self.refuses(k, 0, 0, ('true', (('apart', ('a',)), PAIR)), 'alike', 0)
        self.refuses(k, 0, 0, ('true', (('alike', ((0, 1),)), UPPER)), 'alike', 0)
        self.refuses(k, 0, 0, ('true', (('alike', ((1, 0), (2, 3))), PAIR)), 'alike', 0)

    def test_right_papers_that_states_are_apart_do_not_count(self):
        for thing in (('apart', ('b',)), ('apart', ('a', 'b'))):
            self.refuses(KNOWN, 1, 0, ('true', (('alike', ()), thing)), 'alike', 1)
            self.refuses(KNOWN, 1, 1, ('true', (thing, thing)), 'alike', 0)

    def test_elements_of_any_kind(self):
        k = Knowledge((PAIRED,), ((0,), (1,)))
        for thing in (*ODD, 0, '', 'alike', (), ('alike',), ['alike', ()], ('alike', [(0, 1)]), DEEP, KNOWN,
                      ('true', ()), ('alike', ((0, True),))):
            self.refuses(k, 0, 0, ('true', (thing, PAIR)), 'alike', 0)
            self.refuses(k, 0, 0, ('true', (PAIR, thing)), 'alike', 1)
            self.refuses(k, 0, 0, ('true', (thing, thing)), 'alike', 0)

    def test_past(self):
        for past in (('a',), ('b', 'a'), ('c',), ('zz', 'b'), ('b', 'no'), ('a', 'a', 'a')):
            self.refuses(KNOWN, 1, 0, ('wrong', past, ('b',)), 'past', -1)
            # The past comes before the reading.
            self.refuses(KNOWN, 1, 0, ('wrong', past, ('c',)), 'past', -1)
            self.refuses(KNOWN, 1, 0, ('wrong', past, ()), 'past', -1)
        self.refuses(READY, 1, 0, ('wrong', (), ('b',)), 'past', -1)

    def test_reading(self):
        for reading in ((), ('c',), ('a',), ('b', 'b'), ('b', 'zz'), ('zz', 'b'), ('no',)):
            self.refuses(KNOWN, 1, 0, ('wrong', ('b',), reading), 'reading', -1)
        self.assertIs(lets_truth(KNOWN, 1, 0, ('wrong', ('b',), ('a', 'b'))), False)
        self.refuses(KNOWN, 1, 0, ('wrong', ('b',), ('b',)), 'reading', -1, ('no',))
        self.refuses(KNOWN, 1, 2, ('wrong', ('b',), ('b',)), 'reading', -1)
        self.refuses(Knowledge.any_past(LATE), 0, 2, ('wrong', ('a',), ('b',)), 'reading', -1)

    def test_the_past_leads_the_other_versions_too(self):
        # FIRST is in state 1 after a, but OLD is not in state 0 then.
        k = Knowledge((OLD, FIRST), ((0, 1), (1, 2)))
        self.assertIs(lets_truth(k, 1, 2, ('wrong', ('a', 'a'), ('a',))), False)
        self.refuses(k, 1, 2, ('wrong', ('a',), ('a',)), 'past', -1)
        self.refuses(k, 1, 2, ('wrong', ('b', 'a'), ('a',)), 'reading', -1)

    def test_errors_for_the_version_and_the_state_come_first(self):
        papers = (None, ('true', ()), ('wrong', ('c',), ()), ('true', (('alike', ()),)))
        for thing, paper in itertools.product((*ODD, 2, '', (0,), KNOWN), papers):
            for t in (0, 99):
                expected = (InvalidKnowledge, 'version', thing)
                self.assertEqual(caught(lets_truth, KNOWN, thing, t, paper), expected)
        for t, paper in itertools.product((3, 99, SIXTY), papers):
            self.assertEqual(caught(lets_truth, KNOWN, 1, t, paper), (InvalidState, t))
        self.assertEqual(caught(lets_truth, KNOWN, 0, 2, ('true', ())), (InvalidState, 2))

    def test_papers_of_another_knowledge(self):
        for k, other in itertools.product(list(known([(OLD, NEW), (GAPS, OLD), (FIRST,)])), repeat=2):
            for i, t in itertools.product(range(len(k.versions)), (0, 1)):
                if i < len(other.versions) and k.versions == other.versions:
                    paper = truth_paper(other, i, t)
                    found = caught(lets_truth, k, i, t, paper)
                    right = truth_paper(k, i, t)[0] == paper[0]
                    if not right:
                        self.assertIn(found[1], ('many', 'alike', 'past'))
                    elif other.lies_in(k) and paper[0] == 'wrong':
                        self.assertIsNone(found)


if __name__ == '__main__':
    unittest.main()
