"""[40]: truth_paper."""

import itertools
import unittest

from alwaysnew.alikechecker import lets_alike
from alwaysnew.errors import InvalidKnowledge, InvalidState
from alwaysnew.knowledge import Knowledge
from alwaysnew.readiness import is_true
from alwaysnew.truthchecker import lets_truth
from alwaysnew.truthpapers import truth_paper
from tests.examples import (FIRST, GAPS, NEW, ODD, OLD, SIXTY, caught, is_new_kind, known, plain_after, plain_parting,
                            plain_run, version_groups)

KNOWN = Knowledge((OLD,), ((0,),)).extended(NEW)
QUIETS = ((), ('x',), ('no', 'yes'), ('go', 'never', 'x', 'y'))


def is_truth_paper(k, i, t, thing, quiet):
    """Return whether a value is a truth paper, by the words of [40]."""
    machine = k.versions[i]
    if thing[0] == 'true':
        return len(thing[1]) == len(k.places(i)) and all(
            paper[0] == 'alike' and lets_alike(machine, t, place, paper, quiet=quiet)
            for paper, place in zip(thing[1], k.places(i)))
    _, past, reading = thing
    standing = plain_after(k.versions, past)
    words = [plain_run(machine, reading, state, quiet)[1][-1:] for state in (t, standing[i])]
    return thing[0] == 'wrong' and standing in k.standings and words[0] != words[1]


class TruthPapersTest(unittest.TestCase):
    def test_each_paper(self):
        counts = {'true': 0, 'wrong': 0}
        for k, quiet in itertools.product(known(version_groups()), QUIETS):
            for i, machine in enumerate(k.versions):
                for t in range(len(machine[1])):
                    paper = truth_paper(k, i, t, quiet=quiet)
                    right = all(plain_parting(machine, t, place, quiet) is None for place in k.places(i))
                    self.assertEqual(paper[0], 'true' if right else 'wrong')
                    self.assertTrue(is_truth_paper(k, i, t, paper, quiet))
                    self.assertTrue(is_new_kind(paper))
                    self.assertIs(lets_truth(k, i, t, paper, quiet=quiet), right)
                    self.assertIs(is_true(k, i, t, quiet=quiet), right)
                    counts[paper[0]] += 1
        self.assertGreater(min(counts.values()), 500)

    def test_by_name(self):
        self.assertEqual(truth_paper(t=2, i=1, k=KNOWN('b')), ('true', (('alike', ()),)))
        self.assertEqual(truth_paper(quiet=('no', 'yes'), t=1, i=1, k=KNOWN)[0], 'true')
        self.assertEqual(truth_paper(KNOWN, 1, 0, quiet=('no',))[0], 'wrong')
        self.assertRaises(TypeError, truth_paper, KNOWN, 1, 0, ())

    def test_places_of_several_standings(self):
        # Four standings, but three states of version 1.
        k = Knowledge.any_past(OLD, FIRST)
        self.assertEqual(len(k), 5)
        self.assertEqual(len(truth_paper(k, 1, 0, quiet=('x', 'y'))[1]), 3)
        self.assertEqual(len(truth_paper(k, 0, 1)[1]), 2)
        # State 1 is not reached, and alike with state 2.
        self.assertEqual(truth_paper(Knowledge((GAPS,), ((2,),)), 0, 1)[0], 'true')

    def test_errors(self):
        for thing in (*ODD, 2, 3, '', '0', (), (0,), KNOWN):
            for t in (0, 99, SIXTY):
                self.assertEqual(caught(truth_paper, KNOWN, thing, t), (InvalidKnowledge, 'version', thing))
        for t in (3, 99, SIXTY):
            self.assertEqual(caught(truth_paper, KNOWN, 1, t), (InvalidState, t))
        self.assertEqual(caught(truth_paper, KNOWN, 0, 2), (InvalidState, 2))


if __name__ == '__main__':
    unittest.main()
