"""[73], [75] and [76]: Desk."""

import copy
import unittest

from alwaysnew.desk import Desk
from alwaysnew.errors import InvalidEvent, InvalidKnowledge, InvalidRow, NothingToUndo
from alwaysnew.eventtexts import event_line, log_lines
from tests.examples import FIRST, LATE, NAMED, NEW, OLD, SIXTY, caught, changed_texts
from tests.serviceexamples import Plain, events_for, service_starts

BEGIN = 'service - a,b 1:-,0:- 0:-,1:-'
NEW_LINE = 'a,b 1:-,2:no 0:-,2:yes 2:-,2:-'
QUESTIONS = ('undo', 'count', 'log', 'live', 'true', 'ready', 'wrongs', 'quiet', 'memory', 'table', 'heal')
ASKED = ('places', 'soonest', 'latest', 'harm', 'needed')
# Rows that are never possible.
WRONG = ('', ' ', '\n', 'x', 'Undo', 'undo ', ' undo', 'undo 1', 'undo\n', '\nundo', 'undoo', 'count 0', 'log -',
         'live 0', 'true yes', 'ready ', 'wrongs\n', 'memory  ', 'table 1', 'heal 0', 'heal ', 'places', 'places ',
         'places -1', 'places 00', 'places 01', 'places x', 'places 0 0', 'places 0 ', ' places 0', 'places  0',
         'places\n0', 'places 0\n', 'soonest', 'soonest a', 'latest', 'latest +1', 'harm', 'harm 1.0', 'needed',
         'needed 0 1', 'needed ()', 'read', 'read ', 'read A', 'read a b', 'read a ', ' read a', 'read  a',
         'read a\n', 'read abcdefghi', 'read -', 'read a,b', 'plan', 'plan -', 'plan a', 'plan b,a 0:-,0:-',
         'plan a 1:-', 'plan a 0:- ', 'plan a  0:-', 'plan a 0:', 'plan a :-', 'plan a,b 0:-', 'plan a 0:-\n',
         'plan a 0:A', 'replace', 'replace ', 'replace a', 'replace 00', 'replace 0 0', 'replace -1', 'force',
         'force 0', 'force 0 ', 'force 0 a', 'force 0 0 0', 'force 00 0', 'quiet ', 'quiet a,a', 'quiet b,a',
         'quiet A', 'quiet a b', 'quiet -,a', 'quiet a,', 'quiet -\n', 'forget', 'forget x', 'forget 0 0', 'service',
         'service -', 'service - a', 'service a', 'service a 0:-', 'service - a 1:-', 'service b,a a 0:-',
         'service - a 0:- ', 'service  a 0:-', 'service -\na 0:-', 'service - a 0:-\nread a', BEGIN + '\n', 'write a',
         'ok', '-', 'none', 'never', 'places ' + '9' * 61, 'replace ' + '1' * 61, 'force 0 ' + '9' * 61,
         'soonest 1' + '0' * 60)


def begun(*rows):
    """Return a desk that was told some rows, behind that of a service of OLD."""
    desk = Desk()
    for row in (BEGIN, *rows):
        desk.say(row)
    return desk


class DeskTest(unittest.TestCase):
    def answers(self, desk, **expected):
        for row, answer in expected.items():
            self.assertEqual(desk.say(row.replace('_', ' ')), answer, row)

    def test_the_example(self):
        desk = Desk()
        self.assertEqual([desk.say(BEGIN), desk.say('read a'), desk.say('live'), desk.say('ready'), desk.say('wrongs')],
                         ['ok', '-', '0 1', '0', '-'])

    def test_each_row(self):
        desk = Desk()
        self.assertEqual(desk.say(BEGIN), 'ok')
        self.answers(desk, count='0', log='-', live='0 0', true='yes', ready='0', wrongs='-', quiet='-', memory='1',
                     table=' 0   2 0 live', heal='0', places_0='0', soonest_0='-', latest_0='0', harm_0='0 0',
                     needed_0='-')
        self.assertEqual([desk.say('read a'), desk.say('plan ' + NEW_LINE)], ['-', 'ok'])
        self.answers(desk, count='2', log='read a / plan ' + NEW_LINE, live='0 1', true='yes', ready='0', wrongs='-',
                     quiet='-', memory='2', table=' 0   2 1 live /  1   3 1,2 -', heal='0', places_0='1',
                     places_1='1,2', soonest_1='b', latest_1='never', harm_1='1 0', needed_1='no,yes')
        self.assertEqual([desk.say('force 1 2'), desk.say('read b')], ['ok', '-'])
        self.answers(desk, count='4', live='1 2', true='yes', ready='0 1', wrongs='1', memory='1', undo='read b')
        self.answers(desk, live='1 2', true='no', ready='0', wrongs='-', heal='never')
        self.answers(desk, undo='force 1 2', live='0 1', heal='0')
        self.assertEqual([desk.say('quiet no,yes'), desk.say('quiet')], ['ok', 'no,yes'])
        self.answers(desk, ready='0 1', soonest_1='-', latest_1='0', harm_1='0 0', needed_1='no,yes')
        self.assertEqual([desk.say('replace 1'), desk.say('forget 0'), desk.say('live')], ['ok', 'ok', '0 0'])
        self.answers(desk, places_0='1,2', table=' 0   3 1,2 live', memory='2')

    def test_what_is_said(self):
        desk = Desk()
        desk.say(f'service y {event_line(("plan", FIRST))[5:]}')
        self.assertEqual([desk.say('read a'), desk.say('read b'), desk.say('read a')], ['-', 'x', 'x'])
        self.assertEqual([desk.say('force 0 2'), desk.say('read a'), desk.say('heal')], ['ok', '-', 'never'])
        self.assertEqual([desk.say('force 0 0'), desk.say('read b'), desk.say('wrongs')], ['ok', '-', '3 4'])
        self.assertEqual([desk.say('true'), desk.say('table'), desk.say('quiet')], ['no', ' 0   3 1 wrong', 'y'])

    def test_numbers_and_sets(self):
        desk = Desk()
        desk.say(log_lines((('service', LATE, ()),))[0])
        desk.say('plan a 1:- 2:x 2:y')
        for row, answer in (('places 1', '0'), ('force 1 1', 'ok'), ('heal', '2'), ('harm 1', '0 0'), ('read a', 'x'),
                            ('read a', 'y'), ('read a', 'y'), ('wrongs', '0 1'), ('undo', 'read a'), ('count', '4')):
            self.assertEqual(desk.say(row), answer)
        desk = Desk()
        desk.say('service - a 0:-')
        for row, answer in (('read a', '-'), ('plan a 1:- 2:x 2:y', 'ok'), ('places 1', '0,1,2'), ('soonest 1', 'a,a'),
                            ('latest 1', '2'), ('harm 1', '2 0'), ('needed 1', 'x,y'), ('ready', '0'), ('memory', '3')):
            self.assertEqual(desk.say(row), answer)
        desk = Desk()
        desk.say('service - a,b 0:-,0:-')
        desk.say('plan a,b 1:-,2:- 1:x,1:x 2:y,2:y')
        for row, answer in (('soonest 1', 'none'), ('latest 1', 'never'), ('harm 1', 'never'), ('needed 1', 'x,y')):
            self.assertEqual(desk.say(row), answer)

    def test_names_that_are_words_of_rows(self):
        desk = Desk()
        line = event_line(('plan', NAMED))[5:]
        self.assertEqual(desk.say('service quiet ' + line), 'ok')
        for row, answer in (('read plan', 'letters'), ('read state', '-'), ('quiet', 'quiet'), ('quiet -', 'ok'),
                            ('quiet', '-'), ('quiet count,undo', 'ok'), ('quiet', 'count,undo'),
                            ('undo', 'quiet count,undo'), ('undo', 'quiet -'), ('log', 'read plan / read state')):
            self.assertEqual(desk.say(row), answer)

    def test_rows_that_are_not_possible(self):
        for desk in (Desk(), begun(), begun('read a', 'plan ' + NEW_LINE)):
            for row in WRONG:
                self.assertEqual(caught(desk.say, row), (InvalidRow, row))
            self.assertEqual(desk.counts()[0], desk.counts()[1])
            self.assertGreaterEqual(desk.counts()[0], 2 * len(WRONG))

    def test_before_the_first_service(self):
        desk = Desk()
        for row in (*QUESTIONS, *[f'{word} 0' for word in ASKED], 'read a', 'plan a 0:-', 'replace 0', 'force 0 0',
                    'quiet -', 'forget 0', 'replace 9', *WRONG):
            self.assertEqual(caught(desk.say, row), (InvalidRow, row))
        self.assertEqual(desk.say(BEGIN), 'ok')
        self.assertEqual(desk.say('count'), '0')

    def test_errors_of_the_service(self):
        desk = begun('read a', 'plan ' + NEW_LINE)
        for row, event, reason in (('read c', ('read', 'c'), 'letter'),
                                   ('plan a 0:-', ('plan', (('a',), (((0, ''),),))), 'letters'),
                                   ('replace 0', ('replace', 0), 'live'), ('replace 1', ('replace', 1), 'ready'),
                                   ('replace 2', ('replace', 2), 'version'), ('force 1 3', ('force', 1, 3), 'state'),
                                   ('forget 0', ('forget', 0), 'live'), ('forget 9', ('forget', 9), 'version'),
                                   (f'force {SIXTY} 0', ('force', SIXTY, 0), 'version'),
                                   (f'replace {SIXTY}', ('replace', SIXTY), 'version')):
            self.assertEqual(caught(desk.say, row), (InvalidEvent, event, reason))
        for word in ASKED:
            for version in (2, 10, SIXTY):
                self.assertEqual(caught(desk.say, f'{word} {version}'), (InvalidKnowledge, 'version', version))
        self.assertEqual(desk.say('log'), 'read a / plan ' + NEW_LINE)
        self.assertEqual([desk.say('undo'), desk.say('undo')], ['plan ' + NEW_LINE, 'read a'])
        self.assertEqual(caught(desk.say, 'undo'), (NothingToUndo, 0))
        desk = begun(*['read b'] * 60)
        self.assertEqual(caught(desk.say, 'read b'), (InvalidEvent, ('read', 'b'), 'full'))

    def test_a_new_service_at_the_same_desk(self):
        desk = begun('read a', 'quiet x')
        self.assertEqual([desk.say('service no a 0:no'), desk.say('count'), desk.say('quiet'), desk.say('live')],
                         ['ok', '0', 'no', '0 0'])
        self.assertEqual(desk.say('read a'), '-')
        # What is not possible leaves the service as it is.
        self.assertEqual(caught(desk.say, 'service no a 1:no'), (InvalidRow, 'service no a 1:no'))
        self.assertEqual([desk.say('count'), desk.say('log'), desk.say(BEGIN), desk.say('count')],
                         ['1', 'read a', 'ok', '0'])

    def test_counts(self):
        desk, many = Desk(), 0
        self.assertEqual(desk.counts(), (0, 0))
        for row in ('undo', BEGIN, 'read a', 'read c', 'x', 'table', 'undo', 'undo', 'places 7', BEGIN, '\n'):
            try:
                desk.say(row)
            except (InvalidRow, InvalidEvent, InvalidKnowledge, NothingToUndo):
                pass
            many += 1
            self.assertEqual(desk.counts(), (many, many))
        self.assertEqual({type(count) for count in desk.counts()}, {int})
        self.assertIs(type(desk.counts()), tuple)

    def test_by_name(self):
        desk = Desk()
        self.assertEqual([desk.say(row=BEGIN), desk.say(row='read a'), desk.say(row='count')], ['ok', '-', '1'])
        self.assertRaises(TypeError, Desk, OLD)
        self.assertRaises(TypeError, desk.say)

    def test_two_desks(self):
        one, other = begun('read a'), begun()
        self.assertEqual((one.say('count'), other.say('count')), ('1', '0'))


class RunsTest(unittest.TestCase):
    def expected(self, plain, row):
        """Return the answer of a desk with a plain service."""
        def joined(numbers, between=' '):
            return between.join(map(str, numbers)) or '-'
        word, *rest = row.split(' ')
        if rest:
            version = int(rest[0])
            reading, wait, harm, needed, _ = plain.advice(version)
            return {'places': joined(plain.places(version), ','),
                    'soonest': 'none' if reading is None else joined(reading, ','),
                    'latest': 'never' if wait is None else str(wait),
                    'harm': 'never' if harm is None else joined(harm),
                    'needed': joined([joined(words, ',') for words in needed[0]])}[word]
        heal = plain.advice(plain.live)[4]
        return {'count': str(len(plain.events)), 'live': f'{plain.live} {plain.state}',
                'log': joined([event_line(event) for event in plain.events], ' / '),
                'true': 'yes' if plain.is_true() else 'no', 'ready': joined(plain.ready()),
                'wrongs': joined(plain.wrong), 'quiet': joined(plain.quiet, ','), 'memory': str(len(plain.known)),
                'table': ' / '.join(plain.table()), 'heal': 'never' if heal is None else str(heal)}[word]

    def test_many_events(self):
        answers = set()
        for seed, (machine, quiet, machines) in enumerate(service_starts()):
            desk, plain = Desk(), Plain(machine, quiet)
            self.assertEqual(desk.say(log_lines((plain.beginning,))[0]), 'ok')
            for number, event in enumerate(events_for(machines, 3000 + seed, 40)):
                row, reason = event_line(event), plain.reason(event)
                if reason:
                    self.assertEqual(caught(desk.say, row), (InvalidEvent, event, reason))
                else:
                    said = copy.deepcopy(plain).read(event[1]) if event[0] == 'read' else 'ok'
                    self.assertEqual(desk.say(row), said or '-')
                    plain.go(event)
                rows = [*QUESTIONS[1:], *[f'{word} {i}' for word in ASKED for i in range(len(plain.versions))]]
                for row in rows[number % 3::3]:
                    answer = self.expected(plain, row)
                    self.assertEqual(desk.say(row), answer)
                    answers.add((row.split(' ')[0], answer))
            for event in reversed(plain.events):
                self.assertEqual(desk.say('undo'), event_line(event))
        for word in (*QUESTIONS[1:], *ASKED):
            self.assertGreater(len([one for one, _ in answers if one == word]), 1, word)

    def test_texts_that_are_changed(self):
        desk = begun('read a', 'plan ' + NEW_LINE)
        before = [desk.say(row) for row in ('log', 'live')]
        rows = ['force 1 2', 'replace 0', 'quiet no,yes', 'read b', 'plan ' + NEW_LINE, 'places 1', 'harm 0',
                'forget 1', 'table', BEGIN]
        kinds = set()
        for seed, row in enumerate(rows):
            for changed in changed_texts(row, seed, 150):
                other = copy.deepcopy(desk)
                try:
                    other.say(changed)
                    kinds.add(None)
                except (InvalidRow, InvalidEvent, InvalidKnowledge) as error:
                    kinds.add(type(error))
                    self.assertEqual(getattr(error, 'row', changed), changed)
                    self.assertEqual([other.say(row) for row in ('log', 'live')], before)
        self.assertEqual(kinds, {None, InvalidRow, InvalidEvent, InvalidKnowledge})


if __name__ == '__main__':
    unittest.main()
