"""[54]: needs_paper."""

import itertools
import unittest

from alwaysnew.notebooks import least_notes
from alwaysnew.notepapers import needs_paper
from tests.examples import FIRST, LAST, NEW, OLD, is_new_kind, plain_after, plain_run
from tests.noteexamples import QUIETS, note_cases, places_of, plain_least_notes
from tests.tailexamples import SILENT, TWO

BOTH = (OLD, NEW)


def is_needs_paper(versions, hand, wanted, thing, quiet=()):
    """Return whether a value is a needs paper, by the words of [54]."""
    pasts, partings = thing
    standings = [plain_after(versions, past) for past in pasts]
    both = list(itertools.combinations(range(len(pasts)), 2))
    if not pasts or len(both) != len(partings) or len({places_of(one, hand) for one in standings}) != 1:
        return False
    for (i, j), (index, reading) in zip(both, partings):
        words = [plain_run(versions[index], reading, standings[k][index], quiet)[1][-1:] for k in (i, j)]
        if index not in wanted or words[0] == words[1]:
            return False
    return True


class NeedsPapersTest(unittest.TestCase):
    def test_each_paper(self):
        found = set()
        for (versions, hand, wanted), quiet in itertools.product(note_cases(), QUIETS):
            paper = needs_paper(versions, hand, wanted, quiet=quiet)
            self.assertTrue(is_needs_paper(versions, hand, wanted, paper, quiet))
            self.assertTrue(is_new_kind(paper))
            self.assertEqual(len(paper[0]), plain_least_notes(versions, hand, wanted, quiet))
            self.assertEqual(len(paper[0]), least_notes(versions, hand, wanted, quiet=quiet))
            found.add(len(paper[0]))
        self.assertLessEqual({1, 2, 3, 4, 5}, found)

    def test_by_name(self):
        paper = needs_paper(wanted=(1,), hand=(0,), versions=BOTH)
        self.assertEqual(paper, needs_paper(BOTH, (0,), (1,), quiet=()))
        self.assertEqual(len(paper[0]), 2)
        paper = needs_paper(quiet=('no', 'yes'), wanted=(1,), hand=(0,), versions=BOTH)
        self.assertEqual((len(paper[0]), paper[1]), (1, ()))
        self.assertRaises(TypeError, needs_paper, BOTH, (0,), (1,), ())

    def test_states_that_differ_in_some_places_only(self):
        for versions, hand, wanted in (((OLD, NEW, FIRST), (0,), (1, 2)), ((FIRST, OLD, LAST), (1,), (0, 1, 2)),
                                       ((SILENT, LAST, TWO), (0, 1), (0, 1, 2)), ((FIRST, LAST), (), (0, 1))):
            paper = needs_paper(versions, hand, wanted)
            self.assertTrue(is_needs_paper(versions, hand, wanted, paper))
            self.assertGreater(len(paper[0]), 1)
        # Only the last version is wanted, and parts all.
        paper = needs_paper((OLD, SILENT, TWO), (1,), (2,))
        self.assertEqual({index for index, _ in paper[1]}, {2})
        self.assertEqual((len(paper[0]), len(paper[1])), (4, 6))

    def test_quiet_words_do_not_part(self):
        for quiet in (('no',), ('yes',)):
            for hand in ((), (0,)):
                paper = needs_paper(BOTH, hand, (1,), quiet=quiet)
                self.assertTrue(is_needs_paper(BOTH, hand, (1,), paper, quiet))


if __name__ == '__main__':
    unittest.main()
