"""[73] and [74]: event_line and log_lines."""

import unittest

from alwaysnew.eventtexts import event_line, log_lines
from tests.examples import LATE, NAMED, NEW, OLD, SIXTY

SERVICE = ('service', OLD, ())


class EventTextsTest(unittest.TestCase):
    def test_the_example(self):
        self.assertEqual(event_line(('plan', NEW)), 'plan a,b 1:-,2:no 0:-,2:yes 2:-,2:-')

    def test_each_kind(self):
        for event, line in ((('read', 'a'), 'read a'), (('read', 'abcdefgh'), 'read abcdefgh'),
                            (('read', 'read'), 'read read'), (('plan', OLD), 'plan a,b 1:-,0:- 0:-,1:-'),
                            (('plan', LATE), 'plan a 1:- 2:x 2:y'), (('replace', 0), 'replace 0'),
                            (('replace', 12), 'replace 12'), (('force', 1, 2), 'force 1 2'),
                            (('force', 0, 10), 'force 0 10'), (('quiet', ()), 'quiet -'),
                            (('quiet', ('no',)), 'quiet no'), (('quiet', ('no', 'yes')), 'quiet no,yes'),
                            (('forget', 2), 'forget 2')):
            self.assertEqual(event_line(event), line)
            self.assertEqual(event_line(event=event), line)

    def test_names_that_are_words_of_the_texts(self):
        self.assertEqual(event_line(('plan', NAMED)),
                         'plan letters,plan,state 1:state,0:letters,0:- 0:quiet,1:-,1:read')
        self.assertEqual(event_line(('quiet', ('plan', 'quiet'))), 'quiet plan,quiet')

    def test_large_numbers(self):
        for number in (SIXTY, 10 ** 60, 10 ** 100 + 1):
            self.assertEqual(event_line(('replace', number)), f'replace {number}')
            self.assertEqual(event_line(('forget', number)), f'forget {number}')
            self.assertEqual(event_line(('force', number, number + 1)), f'force {number} {number + 1}')

    def test_logs(self):
        self.assertEqual(log_lines((SERVICE,)), ['service - a,b 1:-,0:- 0:-,1:-'])
        self.assertEqual(log_lines((('service', LATE, ('no', 'yes')),)), ['service no,yes a 1:- 2:x 2:y'])
        log = (SERVICE, ('read', 'a'), ('plan', NEW), ('quiet', ()), ('force', 1, 2), ('forget', 0), ('replace', SIXTY))
        self.assertEqual(log_lines(log), ['service - a,b 1:-,0:- 0:-,1:-', 'read a',
                                          'plan a,b 1:-,2:no 0:-,2:yes 2:-,2:-', 'quiet -', 'force 1 2', 'forget 0',
                                          f'replace {SIXTY}'])

    def test_a_log_gives_a_new_list(self):
        first = log_lines(log=(SERVICE, ('read', 'a')))
        self.assertIs(type(first), list)
        first.append('x')
        self.assertEqual(log_lines((SERVICE, ('read', 'a'))), ['service - a,b 1:-,0:- 0:-,1:-', 'read a'])


if __name__ == '__main__':
    unittest.main()
