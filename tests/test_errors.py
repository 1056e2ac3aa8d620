"""Point 4, and the interface's heading topiary/errors.py."""

import unittest

from topiary import errors

ARGUMENTS = {
    "TextError": ["line", "column", "reason"],
    "InvalidRows": ["row", "reason"],
    "InvalidStretch": ["first", "behind"],
    "InvalidQuestion": ["column", "reason"],
    "NotTurned": ["reason", "number"],
    "TooLarge": ["limit"],
    "InvalidEdit": ["reason"],
    "InvalidRow": ["place"],
    "InvalidPlace": ["place"],
    "InvalidSize": ["size"],
    "InvalidSymbol": ["symbol"],
    "InvalidLine": ["line"],
    "InvalidText": ["number"],
    "UnknownText": ["number"],
    "FilteredQuestion": ["number"],
    "InvalidDocument": [],
    "ImproperQuestion": [],
    "InvalidStep": [],
    "InvalidPart": [],
    "InvalidBox": [],
    "InvalidCounts": [],
    "InvalidLengths": [],
}


class ErrorsTest(unittest.TestCase):
    def test_the_base_class_is_a_value_error(self):
        self.assertEqual(errors.TopiaryError.__bases__, (ValueError,))

    def test_each_class_is_directly_below_the_base_class(self):
        for name in ARGUMENTS:
            with self.subTest(name):
                kind = getattr(errors, name)
                self.assertEqual(kind.__bases__, (errors.TopiaryError,))
                self.assertEqual(kind.__name__, name)

    def test_there_are_no_other_classes(self):
        found = {name for name, value in vars(errors).items() if isinstance(value, type)}
        self.assertEqual(found, set(ARGUMENTS) | {"TopiaryError"})

    def test_arguments_are_attributes(self):
        for name, arguments in ARGUMENTS.items():
            with self.subTest(name):
                values = [f"value {k}" for k in range(len(arguments))]
                error = getattr(errors, name)(*values)
                self.assertEqual(vars(error), dict(zip(arguments, values)))
                named = getattr(errors, name)(**dict(zip(arguments, values)))
                self.assertEqual(vars(named), dict(zip(arguments, values)))

    def test_other_numbers_of_arguments_are_not_taken(self):
        for name, arguments in ARGUMENTS.items():
            with self.subTest(name):
                with self.assertRaises(TypeError):
                    getattr(errors, name)(*[1] * (len(arguments) + 1))
                if arguments:
                    with self.assertRaises(TypeError):
                        getattr(errors, name)(*[1] * (len(arguments) - 1))

    def test_errors_are_raised_and_caught_as_any_of_their_classes(self):
        for kind in (errors.InvalidPlace, errors.TopiaryError, ValueError):
            with self.assertRaises(kind) as caught:
                raise errors.InvalidPlace(7)
            self.assertEqual(caught.exception.place, 7)


if __name__ == "__main__":
    unittest.main()
