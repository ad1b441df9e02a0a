import unittest

from outandover import errors
from samples import anything

FIELDS = {
    'InvalidPaper': ('PaperError', ('word', 'at')),
    'NotUsable': ('ProgramError', ('word', 'at')),
    'InvalidEvent': ('SessionError', ('event', 'reason')),
    'NothingToUndo': ('SessionError', ('steps',)),
    'BrokenOff': ('SessionError', ('count',)),
    'InvalidText': ('TextError', ('line', 'field')),
    'InvalidRow': ('TextError', ('row',)),
}


class Unlooked:
    """An object that cannot be looked at in any way."""

    def refuse(self, *args):
        raise AssertionError('an error inspected its field')

    __eq__ = __ne__ = __bool__ = __len__ = __iter__ = __str__ = __repr__ = __hash__ = __getitem__ = refuse


class ErrorsTest(unittest.TestCase):

    def test_families_derive_directly_from_step_error(self):
        self.assertEqual(errors.StepError.__bases__, (ValueError,))
        for name in ('PaperError', 'ProgramError', 'SessionError', 'TextError'):
            self.assertEqual(getattr(errors, name).__bases__, (errors.StepError,))

    def test_each_error_derives_directly_from_its_family(self):
        for name, (family, _) in FIELDS.items():
            self.assertEqual(getattr(errors, name).__bases__, (getattr(errors, family),))

    def test_there_are_no_other_errors(self):
        own = [thing for thing in vars(errors).values() if isinstance(thing, type)]
        self.assertEqual(len(own), 1 + 4 + len(FIELDS))

    def test_fields_are_the_very_objects(self):
        for name, (_, fields) in FIELDS.items():
            for thing in anything() + [Unlooked()]:
                things = [thing] + [Unlooked() for _ in fields[1:]]
                by_position = getattr(errors, name)(*things)
                by_name = getattr(errors, name)(**dict(zip(fields, things)))
                for error in (by_position, by_name):
                    self.assertEqual(tuple(vars(error)), fields)
                    for field, kept in zip(fields, things):
                        self.assertIs(getattr(error, field), kept)

    def test_an_error_takes_exactly_its_fields(self):
        for name, (_, fields) in FIELDS.items():
            for things in ([0] * (len(fields) - 1), [0] * (len(fields) + 1)):
                with self.assertRaises(TypeError):
                    getattr(errors, name)(*things)
            with self.assertRaises(TypeError):
                getattr(errors, name)(*[0] * len(fields), more=1)

    def test_errors_can_be_raised_and_caught_by_family(self):
        for name, (family, fields) in FIELDS.items():
            for caught in (getattr(errors, family), errors.StepError, ValueError):
                with self.assertRaises(caught):
                    raise getattr(errors, name)(*fields)


if __name__ == '__main__':
    unittest.main()
