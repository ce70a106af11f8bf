"""[12], [13] and [14]: where readings lead, what they say, and which states are reached."""

import itertools
import unittest

from alwaysnew.errors import InvalidLetter, InvalidState
from alwaysnew.machinechecker import lets_machine
from alwaysnew.running import led, past_to, quieted, reached_states, said, step, walked
from tests.examples import (FIRST, GAPS, MACHINES, NAMED, NEW, ODD, OLD, THREE, caught, is_new_kind, made_machine,
                            plain_pasts, plain_run, readings, small_machines)

MADE = [made_machine(seed, states=2 + seed % 4) for seed in range(60)] + small_machines()


class ReadingTest(unittest.TestCase):
    def test_the_examples(self):
        self.assertEqual(led(NEW, ('a', 'b')), 2)
        self.assertEqual(said(NEW, ('a', 'b', 'a')), ('', 'yes', ''))
        self.assertEqual(said(FIRST, ('b',), state=1), ('x',))
        self.assertEqual(step(OLD, 1, 'a'), (0, ''))

    def test_all_short_readings_from_every_state(self):
        for machine in MACHINES:
            for state, reading in itertools.product(range(len(machine[1])), readings(machine[0], 4)):
                expected = plain_run(machine, reading, state)
                self.assertEqual(led(machine, reading, state=state), expected[0])
                self.assertEqual(said(machine, reading, state=state), expected[1])
                if state == 0:
                    self.assertEqual((led(machine, reading), said(machine, reading)), expected)

    def test_step(self):
        for machine in MACHINES:
            for state, row in enumerate(machine[1]):
                for letter, pair in zip(machine[0], row):
                    self.assertEqual(step(machine, state, letter), pair)
                    self.assertEqual(step(letter=letter, state=state, machine=machine), pair)
                    self.assertTrue(is_new_kind(step(machine, state, letter)))

    def test_quiet_words(self):
        self.assertEqual(said(NEW, ('a', 'b', 'a'), quiet=('yes',)), ('', '', ''))
        self.assertEqual(said(NEW, ('a', 'b', 'a'), quiet=('no',)), ('', 'yes', ''))
        self.assertEqual(said(NEW, ('a', 'b'), quiet=('a', 'b', 'never')), ('', 'yes'))
        for machine in MACHINES:
            for quiet in ((), ('x',), ('no', 'yes'), ('go', 'never', 'x')):
                for state, reading in itertools.product(range(len(machine[1])), readings(machine[0], 3)):
                    self.assertEqual(said(machine, reading, state=state, quiet=quiet),
                                     plain_run(machine, reading, state, quiet)[1])

    def test_by_name_in_another_order(self):
        self.assertEqual(led(state=1, reading=('b',), machine=NEW), 2)
        self.assertEqual(said(quiet=('x',), state=2, reading=('b', 'b'), machine=FIRST), ('y', 'y'))
        self.assertEqual(said(reading=(), machine=FIRST), ())
        self.assertRaises(TypeError, led, NEW, ('b',), 1)
        self.assertRaises(TypeError, said, NEW, ('b',), 1)
        self.assertRaises(TypeError, said, NEW, ('b',), 0, ())

    def test_long_readings(self):
        reading = ('a', 'b') * 1000
        self.assertEqual((led(THREE, ('a', 'bb', 'c') * 500), said(THREE, ('a', 'bb', 'c') * 500)),
                         plain_run(THREE, ('a', 'bb', 'c') * 500))
        self.assertEqual(said(GAPS, reading), plain_run(GAPS, reading)[1])

    def test_elements_that_are_no_letters(self):
        for thing in (*ODD, '', 'c', 'ab', 0, 1, (), ('a',), OLD):
            for reading in ((thing,), ('a', thing), ('a', thing, 'zz'), (thing, None, [])):
                self.assertEqual(caught(led, NEW, reading), (InvalidLetter, thing))
                self.assertEqual(caught(said, NEW, reading), (InvalidLetter, thing))
                self.assertEqual(caught(led, NEW, reading, state=thing), (InvalidLetter, thing))
                self.assertEqual(caught(said, NEW, reading, state=3), (InvalidLetter, thing))
            self.assertEqual(caught(step, NEW, 0, thing), (InvalidLetter, thing))
            self.assertEqual(caught(step, NEW, None, thing), (InvalidLetter, thing))

    def test_states_that_are_none(self):
        for thing in (*ODD, 3, 4, '', '0', (), (0,), 'a', OLD):
            self.assertEqual(caught(led, NEW, ('a',), state=thing), (InvalidState, thing))
            self.assertEqual(caught(led, NEW, (), state=thing), (InvalidState, thing))
            self.assertEqual(caught(said, NEW, (), state=thing), (InvalidState, thing))
            self.assertEqual(caught(step, NEW, thing, 'a'), (InvalidState, thing))
            self.assertEqual(caught(past_to, NEW, thing), (InvalidState, thing))

    def test_errors_keep_the_very_objects(self):
        thing = ['a']
        for call in (lambda: led(NEW, ('a', thing)), lambda: step(NEW, 0, thing)):
            with self.assertRaises(InvalidLetter) as raised:
                call()
            self.assertIs(raised.exception.letter, thing)
        for call in (lambda: led(NEW, (), state=thing), lambda: past_to(NEW, thing)):
            with self.assertRaises(InvalidState) as raised:
                call()
            self.assertIs(raised.exception.state, thing)

    def test_states_that_are_not_reached_are_states(self):
        self.assertEqual(said(GAPS, ('a', 'b'), state=3), ('z', ''))
        self.assertEqual(step(GAPS, 3, 'b'), (3, 'z'))

    def test_a_reading_and_then_another(self):
        for machine in MACHINES + tuple(MADE[:8]):
            for one, other in itertools.product(readings(machine[0], 2), repeat=2):
                between = led(machine, one)
                self.assertEqual(led(machine, one + other), led(machine, other, state=between))
                self.assertEqual(said(machine, one + other), said(machine, one) + said(machine, other, state=between))

    def test_kinds(self):
        self.assertIs(type(led(NEW, ('a',))), int)
        self.assertTrue(is_new_kind(said(NEW, ('a', 'b'), quiet=('no',))))


class ReachedTest(unittest.TestCase):
    def test_the_examples(self):
        self.assertEqual((reached_states(FIRST), past_to(FIRST, 2), past_to(OLD, 0)), ((0, 1, 2), ('b',), ()))
        self.assertEqual(walked((('a',), (((2, ''),), ((0, 'x'),), ((2, 'y'),)))), (('a',), (((1, ''),), ((1, 'y'),))))

    def test_reached_states_and_least_pasts(self):
        for machine in (*MACHINES, *MADE):
            pasts = plain_pasts(machine)
            self.assertEqual(reached_states(machine), tuple(sorted(pasts)))
            self.assertTrue(is_new_kind(reached_states(machine)))
            for state in range(len(machine[1])):
                self.assertEqual(past_to(machine, state), pasts.get(state))

    def test_two_equally_long_pasts(self):
        machine = (('a', 'b'), (((2, ''), (1, '')), ((3, ''), (3, '')), ((3, ''), (3, '')), ((3, ''), (4, '')),
                                ((0, ''), (0, ''))))
        self.assertEqual([past_to(machine, state) for state in range(5)],
                         [(), ('b',), ('a',), ('a', 'a'), ('a', 'a', 'b')])

    def test_states_that_are_not_reached(self):
        self.assertEqual(reached_states(GAPS), (0, 2, 4))
        self.assertIsNone(past_to(GAPS, 1))
        self.assertIsNone(past_to(state=3, machine=GAPS))

    def test_a_long_chain(self):
        rows = tuple([((at + 1, ''), (0, '')) for at in range(1499)] + [((0, 'x'), (1499, ''))])
        self.assertEqual(past_to((('a', 'b'), rows), 1499), ('a',) * 1499)
        self.assertEqual(walked((('a', 'b'), rows)), (('a', 'b'), rows))

    def test_walked(self):
        for machine in (*MACHINES, *MADE):
            pasts = plain_pasts(machine)
            order = sorted(pasts, key=lambda state: (len(pasts[state]), pasts[state]))
            rows = tuple(tuple((order.index(follower), word) for follower, word in machine[1][state])
                         for state in order)
            self.assertEqual(walked(machine), (machine[0], rows))
            self.assertTrue(is_new_kind(walked(machine)))
            self.assertEqual(lets_machine(walked(machine)), len(order))

    def test_walked_says_the_same_and_is_walked_already(self):
        for machine in (*MACHINES, *MADE):
            form = walked(machine=machine)
            self.assertEqual(walked(form), form)
            for reading in readings(machine[0], 4):
                self.assertEqual(said(form, reading), said(machine, reading))


class QuietedTest(unittest.TestCase):
    def test_words_in_any_order_and_repeated(self):
        self.assertEqual(quieted(NEW, ('yes', 'no', 'yes')), quieted(NEW, ('no', 'yes')))
        self.assertEqual(quieted(NEW, ('no',)),
                         (('a', 'b'), (((1, ''), (2, '')), ((0, ''), (2, 'yes')), ((2, ''), (2, '')))))
        self.assertEqual(quieted(words=('never', 'a'), machine=NEW), NEW)
        self.assertEqual(quieted(NEW, ()), NEW)
        self.assertEqual(quieted(NAMED, ('letters', 'read', 'state')),
                         (NAMED[0], (((1, ''), (0, ''), (0, '')), ((0, 'quiet'), (1, ''), (1, '')))))

    def test_it_says_what_was_said_but_the_words(self):
        for machine in (*MACHINES, *MADE):
            for words in (('x',), ('y', 'x', 'y'), ('go', 'no')):
                still = quieted(machine, words)
                self.assertTrue(is_new_kind(still))
                self.assertEqual([[pair[0] for pair in row] for row in still[1]],
                                 [[pair[0] for pair in row] for row in machine[1]])
                for state, reading in itertools.product(range(len(machine[1])), readings(machine[0], 2)):
                    self.assertEqual(said(still, reading, state=state),
                                     said(machine, reading, state=state, quiet=words))

    def test_states_that_are_not_reached_are_quiet_too(self):
        self.assertEqual(quieted(GAPS, ('z',))[1][3], ((0, ''), (3, '')))


if __name__ == '__main__':
    unittest.main()
