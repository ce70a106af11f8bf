"""[59]: choice_paper."""

import unittest

from alwaysnew.choicepapers import choice_paper
from alwaysnew.choosing import sure_harm
from alwaysnew.errors import InvalidState
from tests.examples import FIRST, LATE, NEW, SIXTY, THREE, caught, is_new_kind
from tests.harmexamples import WIDE, cases, choice_harms, falling_machine, plain_sure


class ChoicePapersTest(unittest.TestCase):
    def has_right_paper(self, machine, states, many, quiet):
        paper = choice_paper(machine, states, many, quiet=quiet)
        harms = choice_harms(machine, paper, quiet)
        self.assertIn((many, states), harms)
        harm = harms[many, states]
        self.assertEqual(harm, plain_sure(machine, states, min(many, 33), quiet))
        self.assertEqual(harm, sure_harm(machine, states, many, quiet=quiet))
        self.assertTrue(is_new_kind(paper))
        return harm, len(paper)

    def test_each_set_of_states(self):
        found = set()
        for machine, states, quiet in cases(6):
            for many in (0, 1, 2, 3, 4, 40):
                harm, rows = self.has_right_paper(machine, states, many, quiet)
                found.add((harm, min(rows, 3)))
        self.assertLessEqual({(None, 1), (0, 1), (0, 3), (1, 1), (1, 3), (2, 3), (3, 1)}, found)

    def test_many_letters(self):
        for machine, states, quiet in cases(9):
            for many in (100, SIXTY, 10 ** 80):
                self.has_right_paper(machine, states, many, quiet)

    def test_the_rows_of_an_example(self):
        rows = choice_paper(LATE, (0, 1), 2)
        self.assertEqual([row[:2] for row in rows], [(0, (2,)), (1, (1, 2)), (2, (0, 1))])
        self.assertEqual([row[2] for row in rows[1:]], [(), ()])
        self.assertEqual([row[:2] for row in choice_paper(LATE, (0, 1), 0)], [(0, (0, 1))])
        self.assertEqual(choice_harms(LATE, choice_paper(LATE, (0, 1), 1)), {(0, (1, 2)): 1, (1, (0, 1)): 1})

    def test_without_a_bound(self):
        for many in (0, 1, 5, SIXTY):
            paper = choice_paper(FIRST, (1, 2), many)
            self.assertEqual(choice_harms(FIRST, paper)[many, (1, 2)], None)
            self.assertEqual(choice_harms(FIRST, choice_paper(FIRST, (1, 2), many, quiet=('x', 'y')), ('x', 'y')),
                             {(many, (1, 2)): 0})

    def test_at_the_limits(self):
        every = (0, 1, 2, 3, 4)
        for machine in (WIDE, falling_machine(3, 5, THREE[0], ('p', 'q', 'r', 's', ''))):
            for many in (0, 1, 2, 3, 4, 31, 32, SIXTY):
                for quiet in ((), ('p', 'q'), ('p', 'q', 'r', 's')):
                    self.has_right_paper(machine, every, many, quiet)

    def test_errors(self):
        for states, wrong in (((3,), 3), ((0, 1, 2, 3, 4), 3), ((1, SIXTY), SIXTY), ((2, 10 ** 80), 10 ** 80)):
            for many in (0, 1, SIXTY):
                self.assertEqual(caught(choice_paper, NEW, states, many), (InvalidState, wrong))

    def test_by_name(self):
        self.assertEqual(choice_paper(many=1, states=(0, 1), machine=LATE), choice_paper(LATE, (0, 1), 1, quiet=()))
        self.assertEqual(choice_paper(quiet=('x',), many=1, states=(0, 1), machine=LATE),
                         choice_paper(LATE, (0, 1), 1, quiet=('x',)))
        self.assertRaises(TypeError, choice_paper, LATE, (0, 1), 1, ())


if __name__ == '__main__':
    unittest.main()
