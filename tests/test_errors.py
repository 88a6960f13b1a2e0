import unittest

from rulesmerged import errors

WITH_STRINGS = [
    'BookBroken', 'DuplicateName', 'InvalidBook', 'InvalidCase', 'InvalidCondition', 'InvalidCopies', 'InvalidCopy',
    'InvalidHeld', 'InvalidHistory', 'InvalidKinds', 'InvalidLets', 'InvalidLine', 'InvalidMeeting', 'InvalidName',
    'InvalidNames', 'InvalidNumber', 'InvalidRows', 'InvalidSchema', 'InvalidScript', 'InvalidWays', 'MergeBroken',
    'NotLet', 'NothingToUndo', 'UnknownColumn', 'UnknownCopy', 'UnknownFlag', 'UnknownRow', 'UnknownStore',
    'UnknownTable',
]


class ErrorsTest(unittest.TestCase):
    def test_apart_error_is_a_direct_value_error(self):
        self.assertEqual(errors.ApartError.__bases__, (ValueError,))
        self.assertEqual(str(errors.ApartError('why')), 'why')

    def test_others_are_direct_and_take_a_string(self):
        for name in WITH_STRINGS:
            with self.subTest(name):
                kind = getattr(errors, name)
                self.assertEqual(kind.__bases__, (errors.ApartError,))
                self.assertEqual(kind.__name__, name)
                self.assertEqual(kind.__module__, 'rulesmerged.errors')
                self.assertEqual(str(kind('why')), 'why')

    def test_there_are_no_others(self):
        found = [name for name, thing in vars(errors).items() if isinstance(thing, type)]
        self.assertEqual(sorted(found), sorted(WITH_STRINGS + ['ApartError', 'ParseError']))

    def test_parse_error_has_its_line(self):
        self.assertEqual(errors.ParseError.__bases__, (errors.ApartError,))
        for line in (0, 3, 10 ** 39):
            self.assertEqual(errors.ParseError(line).line, line)
            self.assertEqual(errors.ParseError(line=line).line, line)
        with self.assertRaises(ValueError) as caught:
            raise errors.ParseError(7)
        self.assertEqual(caught.exception.line, 7)


if __name__ == '__main__':
    unittest.main()
