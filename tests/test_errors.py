"""[9] and the interface: the errors, their families and their fields."""

import unittest

from alwaysnew import errors

FAMILIES = {
    'PaperError': {'InvalidPaper': ('word', 'at')},
    'MachineError': {'InvalidLetter': ('letter',), 'InvalidState': ('state',), 'InvalidBox': ('word', 'at'),
                     'InvalidKnowledge': ('word', 'at'), 'NotReached': ('standing',)},
    'ServiceError': {'InvalidEvent': ('event', 'reason'), 'NothingToUndo': ('steps',)},
    'TextError': {'InvalidText': ('line', 'field'), 'InvalidRow': ('row',)},
}
ALL_ERRORS = [(name, family, fields) for family in FAMILIES for name, fields in FAMILIES[family].items()]


class Closed:
    """An object that refuses to be inspected."""

    def __repr__(self):
        raise AssertionError('inspected')

    __str__ = __eq__ = __hash__ = __len__ = __bool__ = __iter__ = __format__ = __repr__


class ErrorsTest(unittest.TestCase):
    def test_families(self):
        self.assertEqual(errors.NewError.__bases__, (ValueError,))
        for family in FAMILIES:
            self.assertEqual(getattr(errors, family).__bases__, (errors.NewError,))

    def test_each_error_belongs_to_its_family_only(self):
        for name, family, _ in ALL_ERRORS:
            with self.subTest(name):
                self.assertEqual(getattr(errors, name).__bases__, (getattr(errors, family),))

    def test_fields_are_the_very_objects(self):
        for name, _, fields in ALL_ERRORS:
            kind = getattr(errors, name)
            given = [Closed() for _ in fields]
            by_place = kind(*given)
            by_name = kind(**dict(zip(fields[::-1], given[::-1])))
            for made in (by_place, by_name):
                with self.subTest(name):
                    self.assertEqual(sorted(vars(made)), sorted(fields))
                    for field, thing in zip(fields, given):
                        self.assertIs(getattr(made, field), thing)

    def test_lists_are_kept_as_they_are(self):
        kept = ['a']
        error = errors.InvalidLetter(kept)
        kept.append('b')
        self.assertIs(error.letter, kept)
        self.assertEqual(error.letter, ['a', 'b'])

    def test_other_numbers_of_fields_are_refused(self):
        for name, _, fields in ALL_ERRORS:
            kind = getattr(errors, name)
            with self.subTest(name):
                self.assertRaises(TypeError, kind)
                self.assertRaises(TypeError, kind, *fields, 'more')
                self.assertRaises(TypeError, kind, *fields[1:])
                self.assertRaises(TypeError, kind, **{field + 's': 1 for field in fields})

    def test_each_is_raised_and_caught_by_each_of_its_names(self):
        for name, family, fields in ALL_ERRORS:
            for caught in (getattr(errors, name), getattr(errors, family), errors.NewError, ValueError):
                with self.subTest(name):
                    with self.assertRaises(caught):
                        raise getattr(errors, name)(*fields)

    def test_no_error_is_another(self):
        for name, family, fields in ALL_ERRORS:
            made = getattr(errors, name)(*fields)
            for other, other_family, _ in ALL_ERRORS:
                self.assertEqual(isinstance(made, getattr(errors, other)), name == other)
                self.assertEqual(isinstance(made, getattr(errors, other_family)), family == other_family)


if __name__ == '__main__':
    unittest.main()
