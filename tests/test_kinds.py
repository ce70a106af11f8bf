"""[10], with [2] to [4]: the kinds of values."""

import string
import unittest

from alwaysnew.kinds import is_integer, is_letters, is_name, is_number, is_quiet, is_reading, is_word
from alwaysnew.errors import InvalidLetter
from tests.examples import DEEP, ODD, SIXTY

KINDS = (is_integer, is_number, is_name, is_word, is_letters, is_reading, is_quiet)
MANY = tuple(sorted(one + other for one in string.ascii_lowercase for other in 'abcdefghijkl'))[:300]
LONG = tuple(sorted(a + b + c for a in string.ascii_lowercase for b in string.ascii_lowercase for c in 'abcd'))[:2050]


def kinds_of(thing):
    """Return the names of the kinds of a value, without the is_."""
    return ' '.join([kind.__name__[3:] for kind in KINDS if kind(thing)])


class KindsTest(unittest.TestCase):
    def check(self, expected, *things):
        for thing in things:
            with self.subTest(repr(thing)[:60]):
                self.assertEqual(kinds_of(thing), expected)

    def test_numbers_and_integers(self):
        self.check('integer number', 0, 1, 7, SIXTY, 10 ** 80)
        self.check('integer', -1, -7, -SIXTY, -10 ** 80)

    def test_bools_and_none(self):
        self.check('', True, False, None)

    def test_names(self):
        self.check('name word', 'a', 'z', 'ab', 'az', 'abcdefgh', 'zzzzzzzz', *string.ascii_lowercase)

    def test_strings_that_are_no_names(self):
        self.check('', 'abcdefghi', 'A', 'aZ', 'Za', '`', '{', '@', 'a{', '`a', 'a`', ' ', 'a ', ' a', 'a b', '-', '_',
                   'a_', 'a-b', '0', 'a0', '0a', 'a,b', 'a\n', '\na', '\n', "a'", 'a' * 4000)
        for sign in map(chr, range(32, 127)):
            self.assertEqual(is_name(sign), sign in string.ascii_lowercase, sign)
            self.assertEqual(is_name('b' + sign + 'b'), sign in string.ascii_lowercase, sign)

    def test_the_empty_string_is_a_word(self):
        self.check('word', '')

    def test_tuples_of_names(self):
        self.check('reading quiet', ())
        self.check('letters reading quiet', ('a',), ('a', 'b'), ('abcdefgh',), ('a', 'aa', 'ab', 'b'), ('no', 'yes'))
        self.check('reading', ('b', 'a'), ('a', 'a'), ('a', 'b', 'a'), ('a', 'b', 'b'), ('ab', 'aa'), ('b', 'ab'))

    def test_many_names(self):
        self.assertEqual((len(set(MANY)), len(set(LONG))), (300, 2050))
        self.check('letters reading quiet', MANY, LONG)
        self.check('reading', MANY[::-1], LONG[::-1], LONG + LONG[-1:], MANY[1:] + MANY[:1], ('a',) * 2050)
        self.check('', LONG + ('',), ('A',) + LONG, LONG[:1000] + (1,) + LONG[1000:])

    def test_tuples_of_other_things(self):
        self.check('', ('',), ('a', ''), ('', 'a'), ('a', 'B'), (1,), ('a', 1), (None,), (True,), ('a', ('b',)), ((),),
                   ('abcdefghi',), (['a'],), ('a', None), ('a b',))

    def test_lists_are_no_tuples(self):
        self.check('', [], ['a'], ['a', 'b'], [1], [[]], list(LONG))

    def test_other_values(self):
        self.check('', DEEP, [DEEP], (DEEP,), InvalidLetter('a'), {}, {'a'}, b'a', object())
        for thing in ODD:
            self.assertFalse(is_name(thing))
            self.assertFalse(is_letters(thing))
            self.assertFalse(is_quiet(thing))

    def test_results_are_bools(self):
        for kind in KINDS:
            for thing in (*ODD, 0, '', 'a', (), ('a',), ('a', 'b')):
                self.assertIs(type(kind(thing)), bool)

    def test_by_name(self):
        for kind in KINDS:
            self.assertEqual(kind(thing=('a',)), kind(('a',)))
            self.assertEqual(kind(thing=0), kind(0))


if __name__ == '__main__':
    unittest.main()
