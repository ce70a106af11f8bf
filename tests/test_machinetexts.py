"""[20]: machine_text and reading_text."""

import unittest

from alwaysnew.machinetexts import machine_text, reading_text
from tests.examples import FIRST, LATE, NAMED, NEW, OLD, SIXTY


class MachineTextsTest(unittest.TestCase):
    def test_the_example(self):
        self.assertEqual(machine_text(NEW), 'letters a,b\nstate 1:- 2:no\nstate 0:- 2:yes\nstate 2:- 2:-')

    def test_machines(self):
        self.assertEqual(machine_text(OLD), 'letters a,b\nstate 1:- 0:-\nstate 0:- 1:-')
        self.assertEqual(machine_text(machine=LATE), 'letters a\nstate 1:-\nstate 2:x\nstate 2:y')
        self.assertEqual(machine_text(FIRST), 'letters a,b\nstate 1:- 2:-\nstate 1:x 1:x\nstate 2:y 2:y')
        self.assertEqual(machine_text(NAMED), 'letters letters,plan,state\nstate 1:state 0:letters 0:-\n'
                                              'state 0:quiet 1:- 1:read')
        self.assertEqual(machine_text((('abcdefgh',), (((0, 'zzzzzzzz'),),))), 'letters abcdefgh\nstate 0:zzzzzzzz')
        self.assertIs(type(machine_text(NEW)), str)

    def test_numbers_of_two_digits(self):
        rows = tuple(((state + 1) % 12, '') for state in range(12))
        text = machine_text((('a',), tuple((pair,) for pair in rows)))
        self.assertEqual(text.split('\n')[10:], ['state 10:-', 'state 11:-', 'state 0:-'])

    def test_next_that_is_no_state(self):
        for number in (9, SIXTY, 10 ** 60, 10 ** 100 + 7):
            self.assertEqual(machine_text((('a',), (((number, 'x'),),))), f'letters a\nstate {number}:x')

    def test_readings(self):
        self.assertEqual(reading_text(()), '-')
        self.assertEqual(reading_text(('a',)), 'a')
        self.assertEqual(reading_text(('b', 'a', 'b')), 'b,a,b')
        self.assertEqual(reading_text(reading=('letters', 'state', 'abcdefgh')), 'letters,state,abcdefgh')
        self.assertEqual(reading_text(('a',) * 300), ','.join('a' * 300))


if __name__ == '__main__':
    unittest.main()
