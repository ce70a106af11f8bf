"""[35] and [36]: Knowledge, its properties, len, in, ==, places, allows, begun and any_past."""

import itertools
import unittest

from alwaysnew.boxes import Box
from alwaysnew.errors import InvalidKnowledge, InvalidLetter, NotReached
from alwaysnew.knowledge import Knowledge
from tests.examples import (ALL, DEEP, GAPS, LATE, NEW, ODD, OLD, SIXTY, THREE, caught, is_new_kind,
                            plain_after, plain_reached, readings, standings_of, version_groups)

BOTH = (OLD, NEW)
# It says the same as OLD, but has other rows.
SILENT = (('a', 'b'), (((0, ''), (0, '')),))
KNOWN = Knowledge((OLD,), ((0,),)).extended(NEW)


def some_sets(things):
    """Return some nonempty parts of a list."""
    return [things[:1], things[-1:], things[::2], things[1::3] or things[:1], things]


class KnowledgeTest(unittest.TestCase):
    def test_the_examples(self):
        self.assertEqual([Knowledge.begun(OLD, NEW).standings, len(Knowledge.any_past(OLD, NEW))], [((0, 0),), 4])
        self.assertEqual([KNOWN.standings, KNOWN('b').standings, KNOWN.forgotten(0).places(0)],
                         [((0, 0), (0, 2)), ((0, 2),), (0, 2)])
        self.assertEqual([KNOWN.allows(('a',)), KNOWN.allows(('a', 'a')),
                          Knowledge.any_past(OLD, NEW).cut(('b',)).standings], [False, True, ((0, 2), (1, 2))])
        self.assertEqual(caught(Knowledge, BOTH, ((0, 0), (1, 0))), (NotReached, (1, 0)))

    def test_properties_and_len(self):
        for versions in version_groups():
            for given in some_sets(sorted(plain_reached(versions))):
                for order in (given, given[::-1], given + given, given[1:] + given + given[:1]):
                    k = Knowledge(versions, tuple(order))
                    self.assertEqual((k.versions, k.standings, len(k)), (versions, tuple(given), len(given)))
                    self.assertTrue(is_new_kind(k.versions) and is_new_kind(k.standings))
                    self.assertEqual(k, Knowledge(standings=tuple(given), versions=versions))
        self.assertRaises(AttributeError, setattr, KNOWN, 'standings', ())
        self.assertRaises(AttributeError, setattr, KNOWN, 'versions', ())

    def test_in(self):
        for versions in version_groups()[:12]:
            for given in some_sets(sorted(plain_reached(versions))):
                k = Knowledge(versions, tuple(given))
                for standing in standings_of(versions):
                    self.assertIs(standing in k, standing in given)

    def test_in_with_any_value(self):
        k = Knowledge.any_past(OLD, NEW)
        self.assertIs((1, 1) in k, True)
        for thing in (*ODD, 0, 1, '', 'a', (), (1,), (1, 1, 1), (True, 1), (1, True), (False, False), (0, False),
                      [1, 1], ((1, 1),), (1, 0), (1, -1), (1, 3), (SIXTY, 0), (0, None), ('', ''), (0, (0,)), ([0], 0),
                      (DEEP, DEEP), k, Box(OLD), (k, k), (Box(OLD), 0), k.standings, k.versions):
            self.assertIs(thing in k, False, repr(thing)[:100])
        self.assertIs((0,) in Knowledge.begun(OLD), True)
        self.assertIs((False,) in Knowledge.begun(OLD), False)

    def test_equality(self):
        groups = [BOTH, (NEW, OLD), (OLD, OLD), (OLD,), (OLD, NEW, NEW), (GAPS,), (GAPS, OLD)]
        made = [Knowledge(versions, tuple(given)) for versions in groups
                for given in some_sets(sorted(plain_reached(versions)))[:4]]
        for one, other in itertools.product(made, made):
            same = one.versions == other.versions and one.standings == other.standings
            self.assertIs(one == other, same)
            self.assertIs(one != other, not same)
        # Machines that say the same are other versions all the same.
        self.assertIs(Knowledge.begun(OLD) == Knowledge.begun(SILENT), False)

    def test_equality_with_any_value(self):
        k = Knowledge.begun(OLD)
        for thing in (*ODD, 0, 1, '', (), ((0,),), (OLD, ((0,),)), ((OLD,), ((0,),)), Box(OLD), OLD, k.standings, [k],
                      (k,)):
            self.assertIs(k == thing, False)
            self.assertIs(thing == k, False)
            self.assertIs(k != thing, True)

    def test_places(self):
        for versions in version_groups():
            for given in some_sets(sorted(plain_reached(versions))):
                k = Knowledge(versions, tuple(given))
                for i in range(len(versions)):
                    self.assertEqual(k.places(i), tuple(sorted({standing[i] for standing in given})))
                    self.assertTrue(is_new_kind(k.places(i=i)))

    def test_indexes_of_any_kind(self):
        for thing in (*ODD, 2, 3, '', '0', (), (0,), (0, 0), KNOWN):
            for call in (KNOWN.places, KNOWN.forgotten):
                self.assertEqual(caught(call, thing), (InvalidKnowledge, 'version', thing))
        self.assertEqual(caught(Knowledge.begun(OLD).places, 1), (InvalidKnowledge, 'version', 1))

    def test_allows(self):
        for versions in version_groups():
            for given in some_sets(sorted(plain_reached(versions))):
                k = Knowledge(versions, tuple(given))
                for past in readings(versions[0][0], 3):
                    self.assertIs(k.allows(past), plain_after(versions, past) in given)
        self.assertIs(KNOWN.allows(past=()), True)
        for thing in ('c', 'ab', 'no', *ODD):
            self.assertEqual(caught(KNOWN.allows, ('a', thing, 'zz')), (InvalidLetter, thing))

    def test_begun_and_any_past(self):
        for versions in version_groups():
            begun, any_past = Knowledge.begun(*versions), Knowledge.any_past(*versions)
            self.assertEqual(begun, Knowledge(versions, ((0,) * len(versions),)))
            self.assertEqual(any_past, Knowledge(versions, tuple(plain_reached(versions))))
            self.assertEqual((begun.versions, any_past.versions), (versions, versions))
            self.assertTrue(is_new_kind(begun.versions) and is_new_kind(any_past.standings))
        # They may be called on an object as well.
        self.assertEqual(KNOWN.begun(OLD), Knowledge.begun(OLD))


class ErrorsTest(unittest.TestCase):
    def refuses(self, expected, versions, standings):
        self.assertEqual(caught(Knowledge, versions, standings), expected)
        self.assertEqual(caught(Knowledge, standings=standings, versions=versions), expected)

    def test_no_version(self):
        for standings in ((), ((),), ((0,),), ((), (0,))):
            self.refuses((InvalidKnowledge, 'none', -1), (), standings)
        self.assertEqual(caught(Knowledge.begun), (InvalidKnowledge, 'none', -1))
        self.assertEqual(caught(Knowledge.any_past), (InvalidKnowledge, 'none', -1))

    def test_letters(self):
        for versions, i in (((OLD, LATE), 1), ((OLD, NEW, LATE), 2), ((OLD, LATE, NEW), 1), ((LATE, OLD, LATE), 1),
                            ((OLD, THREE), 1), ((OLD, NEW, ALL, LATE), 2), ((LATE, ALL), 1)):
            expected = (InvalidKnowledge, 'letters', i)
            for standings in ((), ((0,) * len(versions),), ((9,),)):
                self.refuses(expected, versions, standings)
            self.assertEqual(caught(Knowledge.begun, *versions), expected)
            self.assertEqual(caught(Knowledge.any_past, *versions), expected)

    def test_no_standings(self):
        self.refuses((InvalidKnowledge, 'empty', -1), BOTH, ())
        self.refuses((InvalidKnowledge, 'empty', -1), (LATE,), ())

    def test_standing(self):
        for standings, n in ((((),), 0), (((0,),), 0), (((0, 0, 0),), 0), (((2, 0),), 0), (((0, 3),), 0),
                             (((0, 0), (0, 0), (0,)), 2), (((0, 0), (0, 3), (2, 0)), 1), (((0, SIXTY),), 0),
                             (((1, 1), (9, 9), (8, 8)), 1), (((0, 10 ** 80),), 0), (((1, 1), (0, 0), (1, 2), ()), 3)):
            self.refuses((InvalidKnowledge, 'standing', n), BOTH, standings)

    def test_standings_come_before_what_is_reached(self):
        self.refuses((InvalidKnowledge, 'standing', 1), BOTH, ((1, 0), (0, 3)))
        self.refuses((InvalidKnowledge, 'standing', 2), BOTH, ((1, 0), (0, 1), (1,)))
        self.refuses((InvalidKnowledge, 'standing', 1), (GAPS,), ((1,), (5,)))

    def test_not_reached(self):
        for versions in version_groups():
            reached = sorted(plain_reached(versions))
            for standing in standings_of(versions):
                if standing not in reached:
                    self.refuses((NotReached, standing), versions, (*reached, standing))
                    self.refuses((NotReached, standing), versions, (standing, *reached))
        # The first one in the given order, not the least.
        self.refuses((NotReached, (1, 0)), BOTH, ((0, 0), (1, 0), (0, 1)))
        self.refuses((NotReached, (0, 1)), BOTH, ((0, 0), (0, 1), (1, 0), (0, 1)))
        self.refuses((NotReached, (3,)), (GAPS,), ((0,), (3,), (1,)))

    def test_the_error_keeps_the_very_standing(self):
        standing = (1, 0)
        with self.assertRaises(NotReached) as raised:
            Knowledge(BOTH, ((0, 0), standing))
        self.assertIs(raised.exception.standing, standing)


if __name__ == '__main__':
    unittest.main()
