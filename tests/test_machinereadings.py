"""[20] and [21]: machine_read and reading_read."""

import re
import unittest

from alwaysnew.errors import InvalidText
from alwaysnew.machinereadings import machine_read, reading_read
from alwaysnew.machinetexts import machine_text, reading_text
from tests.examples import (MACHINES, NAME, NAMED, NEW, NUMBER, OLD, SIXTY, caught, changed_texts, is_new_kind,
                            made_machine, readings)

TEXT = machine_text(NEW)


def plain_place(text):
    """Return the line and the field of the first word that is not possible, or None."""
    lines = text.split('\n')
    width = None
    for line, words in enumerate([one.split(' ') for one in lines]):
        if line == 0:
            forms = ['letters', f'{NAME}(,{NAME})*']
        else:
            forms = ['state', *[f'{NUMBER}:(-|{NAME})'] * width]
        for field, form in enumerate(forms):
            if field == len(words) or not re.fullmatch(form, words[field]):
                return line, field
            if line == 0 and field == 1:
                letters = words[1].split(',')
                if sorted(set(letters)) != letters:
                    return 0, 1
                width = len(letters)
        if len(words) > len(forms):
            return line, len(forms)
    return None if len(lines) > 1 else (1, 0)


class MachineReadTest(unittest.TestCase):
    def refuses(self, text, line, field):
        self.assertEqual(caught(machine_read, text), (InvalidText, line, field), repr(text))

    def test_the_example(self):
        self.refuses('letters b,a\nstate 0:- 0:-', 0, 1)

    def test_what_was_written(self):
        for machine in (*MACHINES, *[made_machine(seed) for seed in range(10)]):
            text = machine_text(machine)
            self.assertEqual(machine_read(text), machine)
            self.assertEqual(machine_read(text=text), machine)
            self.assertEqual(machine_text(machine_read(text)), text)
            self.assertTrue(is_new_kind(machine_read(text)))

    def test_next_is_not_checked(self):
        self.assertEqual(machine_read('letters a\nstate 7:x'), (('a',), (((7, 'x'),),)))
        text = f'letters a,b\nstate {SIXTY}:- 2:-'
        self.assertEqual(machine_read(text), (('a', 'b'), (((SIXTY, ''), (2, '')),)))
        self.assertEqual(machine_text(machine_read(text)), text)

    def test_empty_lines(self):
        self.refuses('', 0, 0)
        self.refuses('\n', 0, 0)
        self.refuses('\nletters a\nstate 0:-', 0, 0)
        self.refuses('letters a\n', 1, 0)
        self.refuses('letters a\nstate 0:-\n', 2, 0)
        self.refuses('letters a\n\nstate 0:-', 1, 0)

    def test_missing_lines(self):
        self.refuses('letters a', 1, 0)
        self.refuses('letters a,b', 1, 0)

    def test_missing_words(self):
        self.refuses('letters', 0, 1)
        self.refuses('letters\nstate 0:-', 0, 1)
        self.refuses('letters a,b\nstate', 1, 1)
        self.refuses('letters a,b\nstate 0:-', 1, 2)
        self.refuses('letters a,b\nstate 0:- 0:-\nstate 1:x', 2, 2)

    def test_words_too_many(self):
        self.refuses('letters a b\nstate 0:-', 0, 2)
        self.refuses('letters a,b c d', 0, 2)
        self.refuses('letters a\nstate 0:- 0:-', 1, 2)
        self.refuses('letters a,b\nstate 0:- 0:- 0:- 0:-', 1, 3)

    def test_empty_words(self):
        self.refuses(' letters a\nstate 0:-', 0, 0)
        self.refuses('letters  a\nstate 0:-', 0, 1)
        self.refuses('letters a \nstate 0:-', 0, 2)
        self.refuses('letters ', 0, 1)
        self.refuses('letters a\nstate  0:-', 1, 1)
        self.refuses('letters a\nstate 0:- ', 1, 2)
        self.refuses('letters a\n state 0:-', 1, 0)
        self.refuses('letters a,b\nstate 0:-  0:-', 1, 2)

    def test_first_words(self):
        for word in ('letter', 'Letters', 'lettersx', '-', 'state'):
            self.refuses(word + ' a\nstate 0:-', 0, 0)
        for word in ('states', 'State', 'letters', '-', '0:-'):
            self.refuses('letters a\n' + word + ' 0:-', 1, 0)

    def test_letters(self):
        for letters in ('b,a', 'a,a', 'a,', ',a', ',', 'a,,b', '-', 'A', 'a,B', 'abcdefghi', 'a;b', 'a1', '1',
                        'a,b,ab'):
            self.refuses('letters ' + letters + '\nstate 0:-', 0, 1)
        self.assertEqual(machine_read('letters abcdefgh\nstate 0:-')[0], ('abcdefgh',))

    def test_pairs(self):
        for pair in ('', '0', '0:', ':', ':-', ':x', '-:-', '0-', '0:--', '0:X', '0:-:', '0:x:', '0:x:y', '0::x',
                     '00:-', '01:x', '+1:x', '-1:x', '1.0:x', 'a:x', '0:abcdefghi', '0:x1', '0:x,y', '0:~', 'x0:x',
                     '1_0:x', '9' * 61 + ':x', '1' + '0' * 60 + ':x', '0' * 60 + ':x', '0:0', 'state'):
            self.refuses('letters a,b\nstate 0:- ' + pair, 1, 2)
            self.refuses('letters a,b\nstate ' + pair + ' 0:-', 1, 1)

    def test_numbers_of_sixty_digits(self):
        self.assertEqual(machine_read('letters a\nstate ' + '9' * 60 + ':x')[1], (((SIXTY, 'x'),),))
        self.assertEqual(machine_read('letters a\nstate 1' + '0' * 59 + ':x')[1], (((10 ** 59, 'x'),),))
        self.refuses('letters a\nstate 1' + '0' * 60 + ':x', 1, 1)
        self.assertEqual(machine_read('letters a\nstate 10:x'), (('a',), (((10, 'x'),),)))

    def test_names_that_are_words_of_the_texts(self):
        self.assertEqual(machine_read('letters letters,state\nstate 0:state 0:letters'),
                         (('letters', 'state'), (((0, 'state'), (0, 'letters')),)))
        self.assertEqual(machine_read(machine_text(NAMED)), NAMED)

    def test_the_first_place_counts(self):
        self.refuses('letters b,a c\nstates', 0, 1)
        self.refuses('letters a\nstate x 0:- \nletters', 1, 1)
        self.refuses('letters a,b\nstate x', 1, 1)
        self.refuses('letters a\nstate 0:- 0:-\nx', 1, 2)
        self.refuses('letters a\nstate 0:-\nx\n', 2, 0)

    def test_changed_texts(self):
        for machine in (NEW, OLD, NAMED):
            for text in changed_texts(machine_text(machine), 7, 4000):
                place = plain_place(text)
                if place is None:
                    self.assertEqual(machine_text(machine_read(text)), text)
                else:
                    self.refuses(text, *place)
                    self.refuses(text, *place)

    def test_many_lines(self):
        text = 'letters a\n' + '\n'.join(['state 0:x'] * 300)
        self.assertEqual(len(machine_read(text)[1]), 300)
        self.refuses(text + '\nstate 0:X', 301, 1)


class ReadingReadTest(unittest.TestCase):
    def test_readings(self):
        for reading in readings(('a', 'b', 'state'), 3):
            self.assertEqual(reading_read(reading_text(reading)), reading)
            self.assertEqual(reading_text(reading_read(reading_text(reading))), reading_text(reading))
        self.assertEqual(reading_read(text='-'), ())
        self.assertEqual(reading_read('b,a,b,b'), ('b', 'a', 'b', 'b'))
        self.assertIs(type(reading_read('a,b')), tuple)

    def test_refused(self):
        for text in ('', ' ', ',', 'a,', ',a', 'a,,b', '-,a', 'a,-', '--', 'a b', 'a, b', ' a', 'a ', 'a\n', '\na',
                     '\n',
                     'a,b\n', 'a\nb', '- ', '-\n', 'A', 'a,B', 'abcdefghi', 'a1', '0', "a'", 'a;b'):
            self.assertEqual(caught(reading_read, text), (InvalidText, 0, 0), repr(text))


if __name__ == '__main__':
    unittest.main()
