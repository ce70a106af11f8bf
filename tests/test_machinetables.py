"""[20]: machine_table."""

import unittest

from alwaysnew.machinetables import machine_table
from tests.examples import LATE, NEW, THREE


class MachineTablesTest(unittest.TestCase):
    def test_machines(self):
        self.assertEqual(machine_table(NEW), ['  0 1:-         2:no       ',
                                              '  1 0:-         2:yes      ',
                                              '  2 2:-         2:-        '])
        self.assertEqual(machine_table(machine=LATE), ['  0 1:-        ', '  1 2:x        ', '  2 2:y        '])
        self.assertEqual(machine_table(THREE)[0], '  0 3:x         0:-         1:go       ')

    def test_long_words(self):
        self.assertEqual(machine_table((('a', 'b'), (((0, 'abcdefgh'), (0, 'x')),))), ['  0 0:abcdefgh  0:x        '])

    def test_numbers_that_are_longer_than_their_columns(self):
        rows = [((state, 'abcdefgh'), (0, '')) for state in range(1001)]
        table = machine_table((('a', 'b'), tuple(rows)))
        self.assertEqual(table[9], '  9 9:abcdefgh  0:-        ')
        self.assertEqual(table[10], ' 10 10:abcdefgh 0:-        ')
        self.assertEqual(table[100], '100 100:abcdefgh 0:-        ')
        self.assertEqual(table[1000], '1000 1000:abcdefgh 0:-        ')
        self.assertEqual(len(table), 1001)

    def test_a_new_list(self):
        table = machine_table(NEW)
        self.assertIs(type(table), list)
        table.clear()
        self.assertEqual(len(machine_table(NEW)), 3)


if __name__ == '__main__':
    unittest.main()
