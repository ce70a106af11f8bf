"""[73] and [75]: read_event and read_log."""

import re
import unittest

from alwaysnew.errors import InvalidText
from alwaysnew.eventreadings import read_event, read_log
from alwaysnew.eventtexts import event_line, log_lines
from tests.examples import (LATE, MACHINES, NAME, NAMED, NEW, NUMBER, OLD, SIXTY, caught, changed_texts,
                            is_new_kind)

NAMES = f'-|{NAME}(,{NAME})*'
FORMS = {'read': [NAME], 'replace': [NUMBER], 'force': [NUMBER, NUMBER], 'quiet': [NAMES], 'forget': [NUMBER]}
EVENTS = (('read', 'a'), ('read', 'forget'), ('plan', OLD), ('plan', NEW), ('plan', LATE), ('plan', NAMED),
          ('replace', 0), ('replace', 17), ('force', 0, 3), ('force', SIXTY, 10), ('quiet', ()), ('quiet', ('x',)),
          ('quiet', ('no', 'plan', 'yes')), ('forget', 1), ('forget', SIXTY))
LOGS = ((('service', OLD, ()),), (('service', NEW, ('no', 'yes')), *EVENTS), (('service', NAMED, ('read',)), EVENTS[0]),
        (('service', LATE, ()), ('plan', LATE), ('quiet', ())))


def ascends(word):
    """Return whether the names in a word ascend."""
    return sorted(set(word.split(','))) == word.split(',')


def machine_place(words, first):
    """Return the field of the first word of a machine that is not possible, or None."""
    if len(words) == first or not re.fullmatch(f'{NAME}(,{NAME})*', words[first]) or not ascends(words[first]):
        return first
    if len(words) == first + 1:
        return first + 1
    many = len(words) - first - 1
    for field in range(first + 1, len(words)):
        pairs = words[field].split(',')
        if len(pairs) != len(words[first].split(',')):
            return field
        for pair in pairs:
            if not re.fullmatch(f'{NUMBER}:(-|{NAME})', pair) or int(pair.split(':')[0]) >= many:
                return field
    return None


def plain_field(text, is_first=False):
    """Return the field of the first word of a line that is not possible, or None."""
    words = text.split(' ')
    if (words[0] == 'service') != is_first:
        return 0
    if is_first:
        if len(words) == 1 or not re.fullmatch(NAMES, words[1]) or not ascends(words[1]):
            return 1
        return machine_place(words, 2)
    if words[0] == 'plan':
        return machine_place(words, 1)
    if words[0] not in FORMS:
        return 0
    forms = FORMS[words[0]]
    for field, form in enumerate(forms, 1):
        if field == len(words) or not re.fullmatch(form, words[field]):
            return field
        if form == NAMES and not ascends(words[field]):
            return field
    return None if len(words) == len(forms) + 1 else len(forms) + 1


def plain_place(lines):
    """Return the line and the field of the first word of a log that is not possible, or None."""
    for line, text in enumerate(lines):
        field = plain_field(text, line == 0)
        if field is not None:
            return line, field
    return None if lines else (0, 0)


class ReadEventTest(unittest.TestCase):
    def refuses(self, text, field):
        self.assertEqual(caught(read_event, text), (InvalidText, 0, field), repr(text))

    def test_the_examples(self):
        self.assertEqual(read_event('force 1 2'), ('force', 1, 2))
        self.refuses('plan a,b 1:-,2:no', 2)

    def test_there_and_back(self):
        for event in EVENTS:
            line = event_line(event)
            self.assertEqual(read_event(line), event)
            self.assertEqual(read_event(text=line), event)
            self.assertEqual(event_line(read_event(line)), line)
            self.assertTrue(is_new_kind(read_event(line)))
        for machine in MACHINES:
            self.assertEqual(read_event(event_line(('plan', machine))), ('plan', machine))

    def test_a_word_missing_and_one_too_many(self):
        for event in EVENTS:
            line = event_line(event)
            words = line.split(' ')
            if event[0] != 'plan':
                self.refuses(' '.join(words[:-1]), len(words) - 1)
                self.refuses(line + ' x', len(words))
                self.refuses(line + ' 0', len(words))
                self.refuses(line + ' 0 0', len(words))
            else:
                self.refuses(line + ' x', len(words))
            self.refuses(line + ' ', len(words))
            self.refuses(' ' + line, 0)
            self.refuses(words[0], 1)
            self.refuses(words[0] + ' ', 1)
            self.refuses(words[0] + '  ' + ' '.join(words[1:]), 1)

    def test_other_first_words(self):
        for text in ('', ' ', '\n', '-', 'Read a', 'reads a', 'rea a', 'undo', 'log', 'letters a', 'read\na', 'read\n',
                     '\nread a', 'service - a 0:-', 'service', 'state 0:-', 'a', '0'):
            self.refuses(text, 0)

    def test_letters_and_names(self):
        for word in ('', '-', 'A', 'a,b', 'abcdefghi', 'a\n', '\na', 'a\nb', '0', 'a1'):
            self.refuses('read ' + word, 1)
        for word in ('', 'b,a', 'a,a', 'a,', ',a', '-,a', 'a,-', '--', 'A', 'a,B', 'abcdefghi', 'a\n', '-\n', 'a,b\n',
                     '1'):
            self.refuses('quiet ' + word, 1)
        self.refuses('read a\nread b', 1)

    def test_numbers(self):
        for word in ('', '-', '-1', '+1', '00', '01', 'a', '1a', '1.0', '1,0', '0\n', '1_0', '9' * 61, '1' + '0' * 60):
            self.refuses('replace ' + word, 1)
            self.refuses('forget ' + word, 1)
            self.refuses('force ' + word + ' 0', 1)
            self.refuses('force 0 ' + word, 2)
        self.refuses('force x y', 1)
        self.refuses('force 0', 2)
        for number in (0, 9, 10, SIXTY, 10 ** 59):
            self.assertEqual(read_event(f'replace {number}'), ('replace', number))
            self.assertEqual(read_event(f'force {number} {number}'), ('force', number, number))

    def test_machines(self):
        self.refuses('plan', 1)
        self.refuses('plan b,a 0:-,0:-', 1)
        self.refuses('plan - 0:-', 1)
        self.refuses('plan a', 2)
        self.refuses('plan a ', 2)
        self.refuses('plan a 0:- ', 3)
        self.refuses('plan a  0:-', 2)
        for row in ('0', '0:', ':-', '0:-,', ',0:-', '0:-,0:-', '0:X', '00:-', '0:-:', 'x', '-', '0:-\n', '0:\n'):
            self.refuses('plan a ' + row, 2)
            self.refuses('plan a 0:- ' + row + ' 0:-', 3)
        for row in ('0:-', '0:-,0:-,0:-', '0:-,0', '0:-,0:-,', '0:-;0:-'):
            self.refuses('plan a,b ' + row, 2)

    def test_next_below_the_number_of_words(self):
        self.assertEqual(read_event('plan a 1:- 0:x'), ('plan', (('a',), (((1, ''),), ((0, 'x'),)))))
        self.refuses('plan a 1:-', 2)
        self.refuses('plan a 1:- 2:-', 3)
        self.refuses('plan a 0:- 3:-', 3)
        self.refuses('plan a ' + '9' * 60 + ':-', 2)
        self.refuses('plan a ' + '9' * 61 + ':-', 2)
        # The words count whatever they are: the first one that is not possible is the second or the third.
        self.refuses('plan a 1:- x', 3)
        self.refuses('plan a 2:- 0:- ', 4)
        self.refuses('plan a 3:- 0:- ', 2)
        self.refuses('plan a 2:- 0:-', 2)

    def test_changed_texts(self):
        for event in EVENTS:
            for text in changed_texts(event_line(event), 11, 400):
                field = plain_field(text)
                if field is None:
                    self.assertEqual(event_line(read_event(text)), text)
                else:
                    self.refuses(text, field)


class ReadLogTest(unittest.TestCase):
    def refuses(self, lines, line, field):
        self.assertEqual(caught(read_log, lines), (InvalidText, line, field), lines)

    def test_the_example(self):
        self.assertEqual(read_log(['service yes a 0:yes', 'read a']),
                         (('service', (('a',), (((0, 'yes'),),)), ('yes',)), ('read', 'a')))

    def test_there_and_back(self):
        for log in LOGS:
            lines = log_lines(log)
            kept = list(lines)
            self.assertEqual(read_log(lines), log)
            self.assertEqual(read_log(lines=lines), log)
            self.assertEqual(lines, kept)
            self.assertEqual(log_lines(read_log(lines)), lines)
            self.assertTrue(is_new_kind(read_log(lines)))

    def test_an_empty_list(self):
        self.refuses([], 0, 0)
        self.refuses([''], 0, 0)

    def test_the_first_line(self):
        for line in ('read a', 'plan a 0:-', '', 'Service - a 0:-', 'services - a 0:-', ' service - a 0:-', 'quiet -'):
            self.refuses([line], 0, 0)
            self.refuses([line, 'service - a 0:-'], 0, 0)
        for line, field in (('service', 1), ('service ', 1), ('service b,a a 0:-', 1), ('service a,a a 0:-', 1),
                            ('service -', 2), ('service a', 2), ('service - -', 2), ('service - b,a 0:-', 2),
                            ('service - a', 3), ('service  a 0:-', 1), ('service - a ', 3), ('service - a 1:-', 3),
                            ('service - a 0:- ', 4), ('service - a 1:- x', 4), ('service a 0:-', 2),
                            ('service - a 0:- 2:-', 4), ('service - a,b 0:-', 3)):
            self.refuses([line], 0, field)
            self.refuses([line, 'x'], 0, field)

    def test_the_first_line_in_another_place(self):
        first = 'service - a 0:-'
        self.refuses([first, first], 1, 0)
        self.refuses([first, 'read a', first, 'x'], 2, 0)
        self.refuses(['read a', first], 0, 0)

    def test_the_first_line_that_is_not_possible_counts(self):
        self.refuses(['service - a 0:-', 'read a', 'read a b', 'force 1'], 2, 2)
        self.refuses(['service - a 0:-', '', 'read'], 1, 0)
        self.refuses(['service - a 0:-', 'force 1', 'read'], 1, 2)
        self.refuses(['service - a 0:-', 'read a', 'plan a 1:-'], 2, 2)

    def test_whether_an_event_is_possible_is_not_checked(self):
        self.assertEqual(read_log(['service - a 0:-', 'read b', 'forget 7', 'plan c 0:-'])[1:],
                         (('read', 'b'), ('forget', 7), ('plan', (('c',), (((0, ''),),)))))

    def test_changed_logs(self):
        for log in LOGS:
            for text in changed_texts('\n'.join(log_lines(log)), 13, 1500):
                lines = text.split('\n')
                place = plain_place(lines)
                if place is None:
                    self.assertEqual(log_lines(read_log(lines)), lines)
                else:
                    self.refuses(lines, *place)


if __name__ == '__main__':
    unittest.main()
