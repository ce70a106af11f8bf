"""[15]: Box, with [20] and [21]."""

import itertools
import unittest

from alwaysnew.boxes import Box, Echo, Every, Line, Quiet, Renamed, Spelled
from alwaysnew.errors import InvalidBox, InvalidLetter, InvalidPaper, InvalidState, InvalidText
from alwaysnew.machinechecker import lets_machine
from alwaysnew.machinereadings import machine_read
from alwaysnew.machinetexts import machine_text
from alwaysnew.running import led, past_to, said, walked
from tests.examples import (FIRST, GAPS, LATE, LONE, MACHINES, NAMED, NEW, ODD, OLD, ONCE, THREE, caught, is_new_kind,
                            made_machine, plain_pasts, readings)

MADE = [made_machine(seed, states=2 + seed % 4) for seed in range(20)]
SILENT = (('a', 'b'), (((0, ''), (0, '')),))


class BoxTest(unittest.TestCase):
    def test_the_example(self):
        box = Box(FIRST)
        self.assertEqual([box(('a', 'b')), box.after(('b',)), 'c' in box, len(box), list(box.pasts())],
                         [('', 'x'), 2, False, 3, [(), ('a',), ('b',)]])

    def test_machine_and_letters(self):
        for machine in (*MACHINES, *MADE):
            box = Box(machine)
            self.assertEqual(box.machine, walked(machine))
            self.assertEqual(box.letters, machine[0])
            self.assertEqual(len(box), len(plain_pasts(machine)))
            self.assertTrue(is_new_kind(box.machine) and is_new_kind(box.letters))
            self.assertIs(type(box), Box)
        self.assertEqual(Box(machine=GAPS).machine, (('a', 'b'), (((1, 'x'), (2, '')), ((2, 'y'), (1, '')),
                                                                   ((0, ''), (2, 'x')))))

    def test_readings(self):
        for machine in (*MACHINES, *MADE):
            box = Box(machine)
            for past in readings(machine[0], 3):
                self.assertEqual(box(past), said(machine, past))
                self.assertEqual(box(past=past), box(past))
                self.assertEqual(box.after(past), led(walked(machine), past))
                self.assertEqual(box.after(past=past), box.after(past))
                self.assertTrue(is_new_kind(box(past)))
            long = machine[0] * 100
            self.assertEqual((box(long), box.after(long)), (said(machine, long), led(walked(machine), long)))

    def test_elements_that_are_no_letters(self):
        box = Box(NEW)
        for thing in (*ODD, '', 'c', 'ab', 'no', 0, 1, (), OLD):
            for past in ((thing,), ('a', thing), ('a', 'b', thing, 'zz')):
                self.assertEqual(caught(box, past), (InvalidLetter, thing))
                self.assertEqual(caught(box.after, past), (InvalidLetter, thing))
                self.assertEqual(caught(box.after, past), (InvalidLetter, thing))

    def test_letters_of_the_box(self):
        for machine in MACHINES:
            box = Box(machine)
            for thing in (*ODD, '', 'zz', 0, 1, 2, (), ('a',), box, NEW):
                self.assertIs(thing in box, False, thing)
            for letter in machine[0]:
                self.assertIs(letter in box, True)
        self.assertIs('bb' in Box(THREE), True)
        self.assertIs('b' in Box(THREE), False)
        self.assertIs('x' in Box(FIRST), False)

    def test_rows(self):
        for machine in (*MACHINES, *MADE):
            box = Box(machine)
            for state in range(len(box)):
                self.assertEqual(box[state], box.machine[1][state])
                self.assertTrue(is_new_kind(box[state]))
            for thing in (*ODD, len(box), len(box) + 1, '', '0', 'a', (), (0,), box.machine, [0, 1], -len(box)):
                with self.assertRaises(InvalidState) as raised:
                    box[thing]
                self.assertIs(raised.exception.state, thing)

    def test_it_is_not_gone_through(self):
        for box in (Box(NEW), Echo(('a', 'b')), Line(Box(OLD))):
            self.assertRaises(TypeError, list, box)
            self.assertRaises(TypeError, sorted, box)

    def test_pasts(self):
        for machine in (*MACHINES, *MADE):
            box = Box(machine)
            self.assertEqual(list(box.pasts()), [past_to(box.machine, state) for state in range(len(box))])
            pasts = list(plain_pasts(machine).values())
            self.assertEqual(list(box.pasts()), sorted(pasts, key=lambda past: (len(past), past)))
            for past in box.pasts():
                self.assertTrue(is_new_kind(past))

    def test_pasts_left_early_and_gone_through_twice_at_once(self):
        box = Box(THREE)
        expected = list(box.pasts())
        one, other = box.pasts(), box.pasts()
        self.assertEqual(iter(one), one)
        found = [next(one), next(one), next(other), next(one), next(other)]
        self.assertEqual(found, [expected[0], expected[1], expected[0], expected[2], expected[1]])
        one.close()
        self.assertEqual(list(other), expected[2:])
        for past in box.pasts():
            break
        self.assertEqual([(past, later) for past in box.pasts() for later in box.pasts()],
                         list(itertools.product(expected, expected)))

    def test_text(self):
        for machine in (*MACHINES, *MADE):
            box = Box(machine)
            self.assertEqual(str(box), machine_text(box.machine))
            self.assertEqual(machine_read(str(box)), box.machine)
        self.assertEqual(str(Box(NEW)), 'letters a,b\nstate 1:- 2:no\nstate 0:- 2:yes\nstate 2:- 2:-')
        self.assertEqual(str(Box(GAPS)), 'letters a,b\nstate 1:x 2:-\nstate 2:y 1:-\nstate 0:- 2:x')

    def test_or(self):
        one, other = Box(ONCE), Every(('go', 'on'), 2, 'x')
        line = one | other
        self.assertIs(type(line), Line)
        self.assertEqual(len(line.parts), 2)
        self.assertIs(line.parts[0], one)
        self.assertIs(line.parts[1], other)
        self.assertEqual(line, Line(one, other))
        with self.assertRaises(InvalidBox) as raised:
            Box(NEW) | Box(OLD)
        self.assertEqual((raised.exception.word, raised.exception.at), ('word', 0))

    def test_equal(self):
        boxes = [Box(machine) for machine in (*MACHINES, *MADE)]
        for one, other in itertools.product(boxes, boxes):
            self.assertIs(one == other, one.machine == other.machine)
            self.assertIs(one != other, one.machine != other.machine)
        self.assertEqual(Box(GAPS), Box(walked(GAPS)))
        self.assertNotEqual(Box(OLD), Box(SILENT))
        for thing in (*ODD, 0, '', NEW, walked(NEW), str(Box(NEW)), (), ('a', 'b'), len(Box(NEW))):
            self.assertIs(Box(NEW) == thing, False)
            self.assertIs(thing == Box(NEW), False)
            self.assertIs(Box(NEW) != thing, True)

    def test_equal_boxes_of_other_classes(self):
        echo = Box((('a', 'b'), (((0, 'a'), (0, 'b')),)))
        self.assertTrue(Echo(('a', 'b')) == echo and echo == Echo(('a', 'b')))
        self.assertTrue(Line(echo) == echo and Quiet(echo) == echo and Renamed(echo) == echo)
        self.assertTrue(Spelled(echo, (('a', ('a',)), ('b', ('b',)))) == echo)
        self.assertTrue(Every(('a', 'b'), 1, 'x') != echo)

    def test_refused_values(self):
        for thing in (*ODD, 0, '', (), NEW[:1], list(NEW), (('b', 'a'), NEW[1]), (NEW[0], ()), (('a',), NEW[1]),
                      (('a',), (((1, ''),),)), (('a',), (((0, ''),), ((-1, ''),))),
                      (('a',), (((True, ''),),)), Box(NEW)):
            expected = caught(lets_machine, thing)
            self.assertIs(expected[0], InvalidPaper)
            self.assertEqual(caught(Box, thing), expected)
            self.assertEqual(caught(Box, thing), expected)
            self.assertEqual(caught(Box, machine=thing), expected)

    def test_parsed(self):
        for machine in (*MACHINES, *MADE):
            box = Box.parsed(machine_text(machine))
            self.assertEqual((box, type(box)), (Box(machine), Box))
            self.assertEqual(Box.parsed(text=str(box)), box)

    def test_parsed_refuses(self):
        for text, place in (('', (0, 0)), ('letters b,a\nstate 0:- 0:-', (0, 1)), ('letters a', (1, 0)),
                            ('letters a\nstate 9:- x', (1, 2)), ('letters a\nstate 1:x\n', (2, 0))):
            self.assertEqual(caught(Box.parsed, text), (InvalidText, *place))
        self.assertEqual(caught(Box.parsed, 'letters a\nstate 1:x'), (InvalidPaper, 'next', (0, 0)))
        self.assertEqual(caught(Box.parsed, 'letters a,b\nstate 1:x 0:-\nstate 0:- 2:-'),
                         (InvalidPaper, 'next', (1, 1)))

    def test_silent(self):
        box = Box.silent('b', 'a', 'b')
        self.assertEqual((box.machine, type(box), len(box)), (SILENT, Box, 1))
        self.assertEqual(Box.silent('a'), Box(LONE))
        self.assertEqual(Box.silent('state', 'a', 'letters').letters, ('a', 'letters', 'state'))
        self.assertEqual(box(('a', 'b', 'a')), ('', '', ''))

    def test_nothing_changes(self):
        for machine in (NEW, GAPS, NAMED, LATE):
            box = Box(machine)
            kept = (box.machine, str(box), len(box), box.letters)
            box(machine[0] * 3)
            box.after(machine[0])
            list(box.pasts())
            list(box.letters).append('z')
            caught(box, ('zz',))
            self.assertEqual((box.machine, str(box), len(box), box.letters), kept)
            self.assertEqual(box, Box(machine))


if __name__ == '__main__':
    unittest.main()
