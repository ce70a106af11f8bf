"""[32], [33] and [34]: standing_after, reached_standings, past_to_standing and standings_led."""

import itertools
import unittest

from alwaysnew.errors import InvalidLetter, InvalidState
from alwaysnew.standings import past_to_standing, reached_standings, standing_after, standings_led
from tests.examples import (FIRST, GAPS, LATE, NEW, ODD, OLD, caught, is_new_kind, plain_after, plain_reached,
                            plain_run, readings, standings_of, version_groups)

BOTH = (OLD, NEW)
SILENT = (('a', 'b'), (((0, ''), (0, '')),))


class StandingsTest(unittest.TestCase):
    def test_the_examples(self):
        self.assertEqual([reached_standings(BOTH), past_to_standing(BOTH, (1, 2)), past_to_standing(BOTH, (1, 0))],
                         [((0, 0), (0, 2), (1, 1), (1, 2)), ('a', 'b'), None])
        self.assertEqual(standings_led(BOTH, ((0, 0), (0, 2)), ('b',)), ((0, 2),))

    def test_standing_after(self):
        for versions in version_groups():
            for past in readings(versions[0][0], 4):
                found = standing_after(versions, past)
                self.assertEqual(found, plain_after(versions, past))
                self.assertTrue(is_new_kind(found))
                self.assertEqual(standing_after(past=past, versions=versions), found)

    def test_reached_standings_and_their_pasts(self):
        unreached = 0
        for versions in version_groups():
            expected = plain_reached(versions)
            self.assertEqual(reached_standings(versions), tuple(sorted(expected)))
            self.assertEqual(reached_standings(versions=versions), tuple(sorted(expected)))
            self.assertTrue(is_new_kind(reached_standings(versions)))
            for standing in standings_of(versions):
                found = past_to_standing(versions, standing)
                self.assertEqual(found, expected.get(standing))
                self.assertEqual(past_to_standing(standing=standing, versions=versions), found)
                self.assertTrue(is_new_kind(found))
                unreached += found is None
        self.assertGreater(unreached, 10)

    def test_the_least_of_the_shortest_pasts(self):
        self.assertEqual(past_to_standing((OLD, FIRST), (0, 0)), ())
        self.assertEqual(past_to_standing((OLD, FIRST), (0, 1)), ('a', 'a'))
        self.assertEqual(past_to_standing((OLD, FIRST), (1, 2)), ('b', 'a'))
        # Led by b first or by a first, after as many letters: the least one counts.
        machine = (('a', 'b'), (((1, ''), (2, '')), ((0, ''), (3, '')), ((3, ''), (0, '')), ((3, ''), (3, ''))))
        self.assertEqual(past_to_standing((machine, SILENT), (3, 0)), ('a', 'b'))

    def test_standings_led(self):
        for versions in version_groups()[:16]:
            standings = standings_of(versions)
            sets = [(), (standings[0],), tuple(standings[::3]), tuple(standings[1::2]), tuple(standings)]
            for given, reading in itertools.product(sets, readings(versions[0][0], 2)):
                expected = sorted({tuple(plain_run(machine, reading, state)[0]
                                         for machine, state in zip(versions, standing)) for standing in given})
                found = standings_led(versions, given, reading)
                self.assertEqual(found, tuple(expected))
                self.assertTrue(is_new_kind(found))
                self.assertEqual(standings_led(versions, given[::-1], reading), found)
                self.assertEqual(standings_led(reading=reading, standings=given, versions=versions), found)

    def test_led_from_standings_that_are_not_reached(self):
        self.assertEqual(standings_led(BOTH, ((1, 0),), ('a',)), ((0, 1),))
        self.assertEqual(standings_led(BOTH, ((1, 0), (0, 1)), ()), ((0, 1), (1, 0)))
        self.assertEqual(standings_led(BOTH, (), ('b', 'b')), ())

    def test_letters_that_are_none(self):
        for thing in (*ODD, 'c', '', 0, 'ab'):
            expected = (InvalidLetter, thing)
            self.assertEqual(caught(standing_after, BOTH, (thing,)), expected)
            self.assertEqual(caught(standing_after, BOTH, ('a', thing, 'zz')), expected)
            # Letters come before states, and are refused also without any standings.
            self.assertEqual(caught(standings_led, BOTH, (), ('a', thing)), expected)
            self.assertEqual(caught(standings_led, BOTH, ((0, 0),), (thing, 'zz')), expected)
            self.assertEqual(caught(standings_led, BOTH, ((0, 9), (None, 0)), ('b', 'a', thing)), expected)
        self.assertEqual(caught(standing_after, (LATE,), ('b',)), (InvalidLetter, 'b'))

    def test_states_that_are_none(self):
        for thing in (*ODD, 3, 99, '', 'a', (0,)):
            expected = (InvalidState, thing)
            for standing in ((thing, 0), (0, thing), (thing, 77), (thing, None)):
                self.assertEqual(caught(past_to_standing, BOTH, standing), expected)
                self.assertEqual(caught(standings_led, BOTH, (standing,), ()), expected)
                self.assertEqual(caught(standings_led, BOTH, ((1, 2), standing, (8, 8)), ('b',)), expected)
            self.assertEqual(caught(past_to_standing, (OLD, NEW, FIRST), (1, 2, thing)), expected)
        # Each version has its own states.
        self.assertEqual(caught(past_to_standing, BOTH, (2, 2)), (InvalidState, 2))
        self.assertEqual(caught(past_to_standing, (NEW, OLD), (2, 2)), (InvalidState, 2))
        self.assertIsNone(caught(past_to_standing, (NEW, OLD), (2, 1)))

    def test_consequences(self):
        for versions in version_groups():
            reached = reached_standings(versions)
            short = readings(versions[0][0], 2)
            for one, other in itertools.product(short[:8], short):
                self.assertEqual(standings_led(versions, standings_led(versions, reached, one), other),
                                 standings_led(versions, reached, (*one, *other)))
                self.assertLessEqual(set(standings_led(versions, reached, one)), set(reached))
            for standing in reached:
                past = past_to_standing(versions, standing)
                self.assertLess(len(past), len(reached))
                self.assertEqual(standing_after(versions, past), standing)

    def test_large_versions(self):
        rings = tuple((('a', 'b'), tuple((((state + 1) % many, ''), (0, 'x')) for state in range(many)))
                      for many in (3, 5, 7))
        self.assertEqual(len(reached_standings(rings)), 105)
        self.assertEqual(past_to_standing(rings, (2, 4, 6)), ('a',) * 104)
        self.assertEqual(past_to_standing((rings[0], GAPS), (2, 3)), None)


if __name__ == '__main__':
    unittest.main()
