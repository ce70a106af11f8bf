"""[37] and [38]: the methods of Knowledge that return a new one, and lies_in."""

import itertools
import unittest

from alwaysnew.errors import InvalidKnowledge, InvalidLetter
from alwaysnew.knowledge import Knowledge
from tests.examples import (ALL, FIRST, GAPS, LAST, LATE, NEW, ODD, OLD, THREE, caught, is_new_kind, known, plain_after,
                            plain_reached, plain_run, readings, version_groups)

KNOWN = Knowledge((OLD,), ((0,),)).extended(NEW)
AB = (OLD, NEW, FIRST, LAST, GAPS)
EMPTY, VERSIONS = (InvalidKnowledge, 'empty', -1), (InvalidKnowledge, 'versions', -1)


def plain_led(versions, standings, reading):
    """Return the set of the standings to which a reading leads."""
    return {tuple(plain_run(machine, reading, state)[0] for machine, state in zip(versions, standing))
            for standing in standings}


def plain_behind(versions, tail):
    """Return the set of the standings to which a past leads that ends with the tail."""
    return plain_led(versions, plain_reached(versions), tail)


class MethodsTest(unittest.TestCase):
    def check(self, k, versions, standings):
        self.assertIs(type(k), Knowledge)
        self.assertEqual((k.versions, k.standings), (versions, tuple(sorted(standings))))
        self.assertTrue(is_new_kind(k.versions) and is_new_kind(k.standings))

    def test_led_on(self):
        for k in known(version_groups()):
            before = (k.versions, k.standings)
            for reading in readings(k.versions[0][0], 2):
                self.check(k.after(*reading), k.versions, plain_led(k.versions, k.standings, reading))
            for letter in k.versions[0][0]:
                self.check(k(letter), k.versions, plain_led(k.versions, k.standings, (letter,)))
                self.assertEqual(k(letter=letter), k(letter))
            self.assertEqual((k.versions, k.standings), before)
            self.assertEqual(k.after(), k)

    def test_extended(self):
        for k in known([versions for versions in version_groups() if versions[0][0] == ('a', 'b')][:14]):
            for machine, tail in itertools.product(AB, ((), ('a',), ('b', 'a'), ('a', 'b', 'b'))):
                versions = (*k.versions, machine)
                expected = {standing for standing in plain_behind(versions, tail) if standing[:-1] in k.standings}
                if expected:
                    self.check(k.extended(machine, tail=tail), versions, expected)
                else:
                    self.assertEqual(caught(k.extended, machine, tail=tail), EMPTY)
            self.assertEqual(k.extended(OLD), k.extended(tail=(), machine=OLD))
        self.assertRaises(TypeError, KNOWN.extended, OLD, ())

    def test_extended_by_the_words_of_the_definition(self):
        # All pasts that are allowed and end with the tail, up to a length that is enough here.
        for given, machine in (((OLD,), NEW), ((NEW,), OLD), ((FIRST,), OLD), ((OLD, FIRST), NEW), ((LAST,), FIRST)):
            for k in known([given]):
                for tail in ((), ('a',), ('b',), ('a', 'b'), ('b', 'a')):
                    expected = {(*plain_after(given, past), plain_run(machine, past)[0])
                                for past in readings(('a', 'b'), 7)
                                if k.allows(past) and past[len(past) - len(tail):] == tail}
                    if expected:
                        self.check(k.extended(machine, tail=tail), (*given, machine), expected)
                    else:
                        self.assertEqual(caught(k.extended, machine, tail=tail), EMPTY)

    def test_the_new_version_has_run_from_the_beginning(self):
        self.assertEqual(KNOWN.standings, ((0, 0), (0, 2)))
        self.assertEqual(Knowledge((OLD,), ((1,),)).extended(NEW).standings, ((1, 1), (1, 2)))
        self.assertEqual(Knowledge((OLD,), ((1,),)).extended(NEW, tail=('b',)).standings, ((1, 2),))
        self.assertEqual(Knowledge((OLD,), ((1,),)).extended(NEW, tail=('a',)).standings, ((1, 1), (1, 2)))
        self.assertEqual(Knowledge((LAST,), ((0,),)).extended(FIRST).standings, ((0, 0), (0, 1), (0, 2)))

    def test_forgotten(self):
        for k in known(version_groups()):
            for i in range(len(k.versions)):
                if len(k.versions) == 1:
                    self.assertEqual(caught(k.forgotten, i), (InvalidKnowledge, 'last', -1))
                    continue
                versions = k.versions[:i] + k.versions[i + 1:]
                self.check(k.forgotten(i), versions, {one[:i] + one[i + 1:] for one in k.standings})
                self.assertEqual(k.forgotten(i=i), k.forgotten(i))

    def test_forgotten_index_comes_first(self):
        for thing in (*ODD, 1, 2, ''):
            self.assertEqual(caught(Knowledge.begun(OLD).forgotten, thing), (InvalidKnowledge, 'version', thing))
        self.assertEqual(caught(Knowledge.begun(OLD).forgotten, 0), (InvalidKnowledge, 'last', -1))
        self.assertEqual(caught(KNOWN.forgotten, 2), (InvalidKnowledge, 'version', 2))

    def test_cut(self):
        refused = 0
        for k in known(version_groups()):
            for tail in readings(k.versions[0][0], 2):
                expected = plain_behind(k.versions, tail) & set(k.standings)
                if expected:
                    self.check(k.cut(tail), k.versions, expected)
                    self.assertEqual(k.cut(tail=tail), k.cut(tail))
                else:
                    refused += 1
                    self.assertEqual(caught(k.cut, tail), EMPTY)
        self.assertGreater(refused, 10)
        self.assertEqual(caught(Knowledge.begun(OLD, NEW).cut, ('b',)), EMPTY)
        self.assertEqual(Knowledge.begun(OLD, NEW).cut(('a', 'a')), Knowledge.begun(OLD, NEW))

    def test_both_and_either(self):
        for versions in version_groups():
            for one, other in itertools.product(list(known([versions])), repeat=2):
                self.check(one | other, versions, {*one.standings, *other.standings})
                shared = set(one.standings) & set(other.standings)
                if shared:
                    self.check(one & other, versions, shared)
                else:
                    self.assertEqual(caught(one.__and__, other), EMPTY)
                self.assertIs(one.lies_in(other), set(one.standings) <= set(other.standings))
                self.assertIs(one.lies_in(other=other), one.lies_in(other))

    def test_other_versions(self):
        for other in (Knowledge.begun(NEW, OLD), Knowledge.begun(OLD), Knowledge.any_past(OLD, NEW, NEW),
                      Knowledge.begun(OLD, OLD), Knowledge.begun(LATE, LATE), Knowledge.begun(OLD, FIRST)):
            for call in (KNOWN.__or__, KNOWN.__and__, KNOWN.lies_in):
                self.assertEqual(caught(call, other), VERSIONS)
        self.assertEqual(caught(Knowledge.begun(OLD).__and__, Knowledge((NEW,), ((2,),))), VERSIONS)

    def test_letters_that_are_none(self):
        for thing in ('c', 'ab', 'no', 'x', *ODD):
            expected = (InvalidLetter, thing)
            self.assertEqual(caught(KNOWN, thing), expected)
            self.assertEqual(caught(KNOWN.after, 'a', thing, 'zz'), expected)
            self.assertEqual(caught(KNOWN.after, thing), expected)
            self.assertEqual(caught(KNOWN.cut, ('b', thing, 'zz')), expected)
            self.assertEqual(caught(KNOWN.extended, OLD, tail=('a', thing, 'zz')), expected)
            # Letters of the tail come before those of the machine.
            self.assertEqual(caught(KNOWN.extended, LATE, tail=(thing,)), expected)

    def test_extended_by_a_machine_with_other_letters(self):
        for machine in (LATE, THREE, ALL, (('a', 'c'), OLD[1])):
            self.assertEqual(caught(KNOWN.extended, machine), (InvalidKnowledge, 'letters', 2))
            self.assertEqual(caught(KNOWN.extended, machine, tail=('b', 'a')), (InvalidKnowledge, 'letters', 2))
            # Before it is asked whether some past ends with the tail.
            begun = Knowledge.begun(LAST)
            self.assertEqual(caught(begun.extended, machine, tail=('b',)), (InvalidKnowledge, 'letters', 1))
            self.assertEqual(caught(begun.extended, OLD, tail=('b',)), EMPTY)

    def test_long_tails(self):
        tail = ('a', 'b', 'b', 'a', 'a')
        self.assertEqual(Knowledge.any_past(OLD).extended(NEW, tail=tail).standings, ((0, 2), (1, 2)))
        self.assertEqual(Knowledge.any_past(OLD, NEW).cut(tail), Knowledge.any_past(OLD, NEW).after(*tail))


class ConsequencesTest(unittest.TestCase):
    groups = [versions for versions in version_groups() if versions[0][0] == ('a', 'b')][:12]

    def test_led_on(self):
        for k in known(version_groups()):
            short = readings(k.versions[0][0], 2)
            for one, other in itertools.product(short[::2], short):
                self.assertEqual(k.after(*one, *other), k.after(*one).after(*other))
            for other in known([k.versions]):
                for letter in k.versions[0][0]:
                    self.assertEqual((k | other)(letter), k(letter) | other(letter))

    def test_extended(self):
        for k, machine in itertools.product(known(self.groups), AB):
            n = len(k.versions)
            self.assertEqual(k.extended(machine).forgotten(n), k)
            for letter in ('a', 'b'):
                self.assertTrue(k.extended(machine)(letter).lies_in(k(letter).extended(machine)))
            for tail in readings(('a', 'b'), 2):
                if caught(k.cut, tail):
                    self.assertEqual(caught(k.extended, machine, tail=tail), EMPTY)
                    continue
                extended = k.extended(machine, tail=tail)
                self.assertEqual(extended.forgotten(n), k.cut(tail))
                self.assertEqual(extended, k.extended(machine).cut(tail))
                self.assertTrue(extended.lies_in(k.cut(tail).extended(machine)))

    def test_what_is_planned_early_is_known_better(self):
        # So it need not be equal.
        early = Knowledge.begun(OLD).extended(NEW).after('b')
        late = Knowledge.begun(OLD).after('b').extended(NEW)
        self.assertTrue(early.lies_in(late))
        self.assertFalse(late.lies_in(early))

    def test_cut(self):
        for versions in version_groups():
            any_past = Knowledge.any_past(*versions)
            for tail in readings(versions[0][0], 3):
                self.assertEqual(any_past.cut(tail), any_past.after(*tail))
        for k in known(self.groups):
            for one, other in itertools.product(readings(('a', 'b'), 2), repeat=2):
                if not caught(k.cut, (*one, *other)):
                    self.assertTrue(k.cut((*one, *other)).lies_in(k.cut(other)))
                    self.assertTrue(k.cut(other).lies_in(k))

    def test_forgotten(self):
        for k in known(version_groups()):
            if len(k.versions) > 1:
                for i, letter in itertools.product(range(len(k.versions)), k.versions[0][0]):
                    self.assertEqual(k.forgotten(i)(letter), k(letter).forgotten(i))

    def test_begun(self):
        for versions in version_groups():
            begun = Knowledge.begun(*versions)
            for past in readings(versions[0][0], 3):
                self.assertEqual(len(begun.after(*past)), 1)
                for k in known([versions]):
                    self.assertIs(begun.after(*past).lies_in(k), k.allows(past))


if __name__ == '__main__':
    unittest.main()
