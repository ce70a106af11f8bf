"""[16] to [19]: Line, Every, Echo, Once, Renamed, Quiet and Spelled."""

import itertools
import unittest

from alwaysnew.boxes import Box, Echo, Every, Line, Once, Quiet, Renamed, Spelled
from alwaysnew.errors import InvalidBox, InvalidLetter
from alwaysnew.lines import line_standing, line_step
from alwaysnew.running import quieted, walked
from tests.examples import (ALL, COUNT, FIRST, GAPS, LAST, LATE, MACHINES, NEW, ODD, OLD, ONCE, SIXTY, THREE, caught,
                            is_new_kind, made_machine, plain_line_run, plain_run, readings)

AB, XY = ('a', 'b'), ('x', 'y')
HEARS = (XY, (((1, 'a'), (0, '')), ((0, 'b'), (1, 'a'))))
# Pairs and triples of boxes of all classes that can stand in one line.
TRIPLES = (
    (Box(LAST), Box(HEARS), Box(NEW)), (Box(LAST), Box(HEARS), Every(AB, 3, 'x')),
    (Once(AB, 'b', 'x'), Box(HEARS), Echo(AB)), (Box(ONCE), Every(('go',), 2, 'a'), Box(FIRST)),
    (Quiet(Box(NEW), 'no'), Once(('yes',), 'yes', 'b'), Box(LAST)),
    (Renamed(Box(FIRST), a='c'), Box(HEARS), Spelled(Box(NEW), (('a', ('b',)), ('b', ('a', 'a', 'b'))))),
    (Line(Box(LAST), Box(HEARS)), Echo(AB), Line(Box(LAST), Box(HEARS))),
    (Box(OLD), Echo(XY), Box(HEARS)), (Echo(AB), Echo(AB), Box(OLD)),
)


def words_of(box):
    """Return the words that a box can say, ascending."""
    return tuple(sorted({word for row in box.machine[1] for _, word in row if word}))


class LineTest(unittest.TestCase):
    def test_the_example(self):
        line = Once(AB, 'b', 'go') | Every(('go', 'on'), 1, 'x')
        self.assertEqual([line(('a', 'b', 'b')), len(line)], [('', 'x', ''), 2])

    def test_what_it_says(self):
        for parts in [*TRIPLES, *[triple[:2] for triple in TRIPLES], *[triple[1:] for triple in TRIPLES],
                      *[triple[:1] for triple in TRIPLES]]:
            line = Line(*parts)
            machines = [part.machine for part in parts]
            self.assertEqual(line.letters, parts[0].letters)
            for past in readings(line.letters, 5):
                self.assertEqual(line(past), plain_line_run(machines, (0,) * len(parts), past)[1])

    def test_states_are_the_tuples_of_states(self):
        for parts in TRIPLES:
            line = Line(*parts)
            machines = tuple(part.machine for part in parts)
            pasts = list(line.pasts())
            standings = [line_standing(machines, past) for past in pasts]
            found = {line_standing(machines, past) for past in readings(line.letters, 6)}
            self.assertEqual(len(set(standings)), len(line))
            self.assertLessEqual(found, set(standings))
            self.assertEqual(line.machine, walked(line.machine))
            for state, standing in enumerate(standings):
                for letter, (follower, word) in zip(line.letters, line[state]):
                    self.assertEqual(line_step(machines, standing, letter), (standings[follower], word))

    def test_a_line_is_not_made_smaller(self):
        # All standings say the same, but they are different ones.
        line = Box(OLD) | Box(ALL)
        self.assertEqual(line.machine, (AB, (((1, ''), (0, '')), ((0, ''), (1, '')))))
        self.assertEqual(len(Box(ONCE) | Every(('go',), 2, '')), 2)

    def test_parts(self):
        for parts in TRIPLES:
            line = Line(*parts)
            self.assertIs(type(line.parts), tuple)
            self.assertEqual([type(part) for part in line.parts], [type(part) for part in parts])
            for part, given in zip(line.parts, parts):
                self.assertIs(part, given)
        self.assertEqual(len(Line(Box(OLD)).parts), 1)
        self.assertEqual(Line(Box(OLD)), Box(OLD))

    def test_lines_within_lines(self):
        for one, other, third in TRIPLES:
            left, right, flat = (one | other) | third, one | (other | third), Line(one, other, third)
            self.assertTrue(left == right and right == flat and left == flat)
            self.assertEqual([type(part) for part in left.parts], [Line, type(third)])
            self.assertEqual([type(part) for part in right.parts], [type(one), Line])
            self.assertIs(left.parts[0].parts[1], other)
            self.assertEqual(Line(Line(Line(one), other), Line(third)), flat)

    def test_refused(self):
        self.assertEqual(caught(Line), (InvalidBox, 'none', -1))
        box = Box(OLD)
        for thing in (*ODD, 0, '', (), NEW, [box], (box,), 'box'):
            self.assertEqual(caught(Line, thing), (InvalidBox, 'shape', 0))
            self.assertEqual(caught(Line, box, thing), (InvalidBox, 'shape', 1))
            self.assertEqual(caught(Line, thing, box, thing), (InvalidBox, 'shape', 0))
            self.assertEqual(caught(Line, Box(NEW), Box(OLD), thing), (InvalidBox, 'shape', 2))

    def test_words_that_the_next_part_does_not_read(self):
        for parts, at in (((NEW, OLD), 0), ((LAST, ALL), 0), ((OLD, LAST, ALL), 1), ((LAST, HEARS, NEW, OLD), 2),
                          ((NEW, LAST, ALL), 0), ((OLD, OLD, OLD, LATE, ALL), 3)):
            self.assertEqual(caught(Line, *[Box(part) for part in parts]), (InvalidBox, 'word', at))
        self.assertEqual(caught(Line, Echo(AB), Echo(('a',))), (InvalidBox, 'word', 0))
        self.assertEqual(caught(Line, Echo(('a',)), Echo(AB)), None)

    def test_words_in_states_that_are_not_reached_do_not_count(self):
        loud = (AB, (((0, ''), (0, 'go')), ((0, 'loud'), (0, ''))))
        self.assertEqual((Box(loud) | Box(ALL))(('a', 'b')), ('', 'x'))

    def test_consequences(self):
        for parts in [*TRIPLES, *[triple[:2] for triple in TRIPLES]]:
            line = Line(*parts)
            self.assertEqual(Echo(line.letters) | line, line)
            words = words_of(line)
            if words:
                self.assertEqual(line | Echo(words), line)
            for at, part in enumerate(parts):
                self.assertEqual(Line(*parts[:at], Box(part.machine), *parts[at + 1:]), line)


class EveryEchoOnceTest(unittest.TestCase):
    def test_every(self):
        for letters, many, word in itertools.product((('a',), AB, ('a', 'go', 'x')), (1, 2, 3, 7), ('x', 'a', '')):
            box = Every(letters, many, word)
            self.assertEqual((len(box), box.letters, type(box)), (many, letters, Every))
            past = (letters * 15)[:15]
            self.assertEqual(box(past), tuple(word if (at + 1) % many == 0 else '' for at in range(15)))
            self.assertEqual(box.machine, (letters, tuple(
                tuple(((state + 1) % many, word if state == many - 1 else '') for _ in letters)
                for state in range(many))))
            self.assertTrue(is_new_kind(box.machine))
        self.assertEqual(Every(word='x', letters=AB, many=2), Every(AB, 2, 'x'))

    def test_echo(self):
        for letters in (('a',), AB, ('a', 'go', 'state')):
            box = Echo(letters)
            self.assertEqual((len(box), type(box)), (1, Echo))
            for past in readings(letters, 3):
                self.assertEqual(box(past), past)
        self.assertEqual(Echo(letters=AB).machine, (AB, (((0, 'a'), (0, 'b')),)))

    def test_once(self):
        for letters in (('a',), AB, ('a', 'b', 'go')):
            for letter, word in itertools.product(letters, ('x', 'go', '')):
                box = Once(letters, letter, word)
                self.assertEqual((len(box), box.letters, type(box)), (2, letters, Once))
                for past in readings(letters, 3):
                    first = past.index(letter) if letter in past else None
                    self.assertEqual(box(past), tuple(word if at == first else '' for at in range(len(past))))
                    self.assertEqual(box.after(past), 1 if letter in past else 0)
        self.assertEqual(Once(word='go', letter='b', letters=AB).machine, ONCE)

    def test_letters_that_are_none(self):
        wrong = (*ODD, 0, '', 'a', 'ab', (), ('b', 'a'), ('a', 'a'), ('a', ''), ['a'], OLD)
        for letters in wrong:
            expected = (InvalidBox, 'letters', -1)
            self.assertEqual(caught(Every, letters, 1, 'x'), expected)
            self.assertEqual(caught(Every, letters, 0, 'X'), expected)
            self.assertEqual(caught(Echo, letters), expected)
            self.assertEqual(caught(Once, letters, 'a', 'x'), expected)
            self.assertEqual(caught(Once, letters, 'zz', 'X'), expected)

    def test_many_that_is_no_number_from_1_on(self):
        for many in (0, True, False, None, -1, -SIXTY, '1', '', (1,), [1], ()):
            self.assertEqual(caught(Every, AB, many, 'x'), (InvalidBox, 'many', -1))
            self.assertEqual(caught(Every, AB, many, 'X'), (InvalidBox, 'many', -1))

    def test_a_letter_that_is_none(self):
        for letter in (*ODD, 'c', 'ab', '', 0, (), ('a',)):
            self.assertEqual(caught(Once, AB, letter, 'x'), (InvalidLetter, letter))
            self.assertEqual(caught(Once, AB, letter, None), (InvalidLetter, letter))

    def test_a_word_that_is_none(self):
        for word in (*ODD, 0, 1, (), ('x',), ['x'], 'X', 'abcdefghi', '-', ' '):
            self.assertEqual(caught(Every, AB, 2, word), (InvalidBox, 'word', -1))
            self.assertEqual(caught(Every, AB, SIXTY, word), (InvalidBox, 'word', -1))
            self.assertEqual(caught(Once, AB, 'a', word), (InvalidBox, 'word', -1))


class RenamedTest(unittest.TestCase):
    def test_the_example(self):
        self.assertEqual(Renamed(Box(OLD), a='c').letters, ('b', 'c'))

    def test_what_it_says(self):
        for machine in MACHINES[:6] + (GAPS, THREE):
            letters = machine[0]
            for names in itertools.permutations(('a', 'b', 'bb', 'c', 'zz'), len(letters)):
                box = Renamed(Box(machine), **dict(zip(letters, names)))
                self.assertEqual((box.letters, type(box)), (tuple(sorted(names)), Renamed))
                self.assertEqual(len(box), len(Box(machine)))
                for past in readings(letters, 3):
                    renamed = tuple(names[letters.index(letter)] for letter in past)
                    self.assertEqual(box(renamed), plain_run(machine, past)[1])

    def test_the_order_of_the_letters_changes_the_order_of_the_states(self):
        box = Renamed(Box(FIRST), a='c')
        self.assertEqual(box.machine, (('b', 'c'), (((1, ''), (2, '')), ((1, 'y'), (1, 'y')), ((2, 'x'), (2, 'x')))))
        self.assertEqual(Renamed(Box(FIRST), a='b', b='a').machine, (AB, box.machine[1]))

    def test_renamed_back(self):
        for machine in (OLD, NEW, FIRST, GAPS, LAST):
            box = Box(machine)
            self.assertEqual(Renamed(Renamed(box, a='zz'), zz='a'), box)
            self.assertEqual(Renamed(Renamed(box, a='b', b='a'), b='a', a='b'), box)
            self.assertEqual(Renamed(Renamed(box, b='aa', a='q'), q='a', aa='b'), box)
            self.assertEqual(Renamed(box), box)
            self.assertEqual(Renamed(box=box, a='a'), box)

    def test_names_that_are_no_letters(self):
        for names, wrong in (({'c': 'd'}, 'c'), ({'a': 'c', 'zz': 'd', 'yy': 'e'}, 'zz'), ({'c': 5, 'a': 5}, 'c'),
                             ({'a': 5, 'c': 5}, 'c'), ({'a': 'b', 'c': 'b'}, 'c'), ({'A': 'x'}, 'A'), ({'': 'x'}, '')):
            self.assertEqual(caught(Renamed, Box(OLD), **names), (InvalidLetter, wrong))

    def test_new_names_that_are_none(self):
        for thing in (*ODD, 0, '', (), ('a',), 'X', 'abcdefghi'):
            self.assertEqual(caught(Renamed, Box(OLD), a=thing), (InvalidBox, 'name', -1))
            self.assertEqual(caught(Renamed, Box(OLD), b='a', a=thing), (InvalidBox, 'name', -1))
            self.assertEqual(caught(Renamed, Box(THREE), c='a', bb='a', a=thing), (InvalidBox, 'name', -1))

    def test_two_letters_with_the_same_name(self):
        for names in ({'a': 'b'}, {'b': 'a'}, {'a': 'c', 'b': 'c'}, {'a': 'b', 'b': 'b'}):
            self.assertEqual(caught(Renamed, Box(OLD), **names), (InvalidBox, 'twice', -1))

    def test_letters_called_name_and_names(self):
        box = Echo(('letter', 'name', 'names'))
        self.assertEqual(Renamed(box, name='a', names='b', letter='c').machine,
                         (('a', 'b', 'c'), (((0, 'name'), (0, 'names'), (0, 'letter')),)))


class QuietTest(unittest.TestCase):
    def test_what_it_says(self):
        for machine in (*MACHINES, *[made_machine(seed) for seed in range(8)]):
            for words in ((), ('x',), ('y', 'x', 'y'), ('never', 'no'), ('go', 'yes', 'no')):
                box = Quiet(Box(machine), *words)
                self.assertEqual(box.machine, walked(quieted(machine, words)))
                self.assertEqual((len(box), box.letters, type(box)), (len(Box(machine)), machine[0], Quiet))
                for past in readings(machine[0], 3):
                    self.assertEqual(box(past), plain_run(machine, past, 0, words)[1])

    def test_words_that_are_no_names(self):
        for thing in (*ODD, '', 0, (), ('x',), 'X', 'abcdefghi'):
            self.assertEqual(caught(Quiet, Box(NEW), thing), (InvalidBox, 'word', 0))
            self.assertEqual(caught(Quiet, Box(NEW), 'no', 'no', thing, None), (InvalidBox, 'word', 2))


class SpelledTest(unittest.TestCase):
    def test_the_example(self):
        self.assertEqual(Spelled(Box(NEW), (('go', ('a', 'b')), ('on', ())))(('on', 'go')), ('', 'yes'))

    def test_what_it_says(self):
        tables = ((('a', ('b',)), ('b', ('a', 'a')), ('go', ())), (('go', ('a', 'b', 'b')),),
                  (('a', ()), ('b', ())), (('a', ('a',)), ('b', ('b',))), (('ab', ('a', 'b')), ('ba', ('b', 'a'))))
        for machine, table in itertools.product((OLD, NEW, FIRST, GAPS, LAST, ONCE), tables):
            box = Spelled(Box(machine), table)
            letters = tuple(letter for letter, _ in table)
            self.assertEqual((box.letters, type(box)), (letters, Spelled))
            for past in readings(letters, 3):
                state, words = 0, []
                for letter in past:
                    state, heard = plain_run(machine, dict(table)[letter], state)
                    words.append(''.join([word for word in heard if word][-1:]))
                self.assertEqual(box(past), tuple(words))

    def test_the_last_word_that_is_not_empty(self):
        table = (('go', ('b', 'a', 'a')),)
        self.assertEqual(Spelled(Box(NEW), table)(('go', 'go')), ('no', ''))
        self.assertEqual(Spelled(Box(GAPS), (('a', ('a', 'b', 'a', 'a')),))(('a',)), ('y',))

    def test_states_that_are_reached_no_more(self):
        self.assertEqual(len(Spelled(Box(NEW), (('a', ('a', 'a')),))), 1)
        self.assertEqual(len(Spelled(Box(NEW), (('a', ('a',)),))), 2)
        self.assertEqual(Spelled(box=Box(FIRST), table=(('c', ('b',)), ('d', ('a',)))),
                         Renamed(Box(FIRST), a='d', b='c'))

    def test_tables_that_are_none(self):
        for thing in (*ODD, 0, '', (), 'ab', ('a', ('a',)), ('a',), (('a',),), (('a', ('a',), ()),), (['a', ('a',)],),
                      [('a', ('a',))], (('a', ['a']),), (('a', 'a'),), (('a', None),), (('a', ('',)),),
                      (('a', ('A',)),),
                      (('a', (1,)),), (('', ('a',)),), (('A', ('a',)),), ((1, ('a',)),), ((True, ('a',)),),
                      (('abcdefghi', ()),), (('b', ()), ('a', ())), (('a', ()), ('a', ())), (('a', ()), ('a', ('b',))),
                      (('a', ('b',)), ('a', ('a',))), (('a', ()), ()), (('a', ()), None), ((('a',), ()),),
                      (('a', ('zz',)), ('a', ()))):
            self.assertEqual(caught(Spelled, Box(NEW), thing), (InvalidBox, 'table', -1), thing)

    def test_readings_of_other_letters(self):
        for table, letter in (((('a', ('c',)),), 'c'), ((('a', ('a', 'b')), ('b', ('b', 'go', 'c'))), 'go'),
                              ((('c', ('a', 'c')), ('d', ('e',))), 'c'), ((('ab', ()), ('c', ('ab',))), 'ab')):
            self.assertEqual(caught(Spelled, Box(NEW), table), (InvalidLetter, letter))


class AllClassesTest(unittest.TestCase):
    def test_every_class_is_a_box(self):
        boxes = (Line(Box(OLD)), Every(AB, 2, 'x'), Echo(AB), Once(AB, 'a', 'x'), Renamed(Box(OLD), a='c'),
                 Quiet(Box(NEW), 'no'), Spelled(Box(NEW), (('c', ('b',)),)))
        for box in boxes:
            self.assertIsInstance(box, Box)
            self.assertEqual(Box(box.machine), box)
            self.assertEqual(box, Box(box.machine))
            self.assertEqual(Box.parsed(str(box)), box)
            self.assertEqual(len(list(box.pasts())), len(box))
            self.assertEqual(box.machine, walked(box.machine))
            self.assertEqual(caught(box, ('zz',)), (InvalidLetter, 'zz'))
            self.assertEqual(Line(box, Echo(words_of(box) or ('x',))), box)

    def test_the_given_boxes_do_not_change(self):
        box = Box(NEW)
        Renamed(box, a='c')
        Quiet(box, 'no', 'yes')
        Spelled(box, (('c', ('b',)),))
        Line(box)
        self.assertEqual(box.machine, NEW)

    def test_counting_boxes_in_lines(self):
        line = Box(ONCE) | Box(COUNT)
        self.assertEqual(line(('b', 'b')), ('x', ''))
        self.assertEqual(line.after(('a', 'b')), 1)


if __name__ == '__main__':
    unittest.main()
