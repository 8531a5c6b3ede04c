"""[2] and the interface: the error classes."""

import unittest

from quietrows import errors

FIELDS = {
    "BadStream": "place", "BadMember": "what", "BadRow": "index", "BadForm": None, "Mixed": None,
    "BadTrain": "what", "NoEvent": "number", "Large": "count", "NoQuestion": None, "Untrue": None,
    "NotKnown": None, "BadNumbers": "place", "BadBus": "index", "NoInput": "name", "OtherInputs": None,
    "NotLater": "time", "NoBack": None, "BadText": "place", "NoName": None,
}


def error_made(name, value):
    made = getattr(errors, name)
    return made(value) if FIELDS[name] else made()


class Errors(unittest.TestCase):

    def test_the_module_defines_exactly_the_listed_errors_and_their_base(self):
        defined = {name for name, thing in vars(errors).items() if isinstance(thing, type)}
        self.assertEqual(defined, set(FIELDS) | {"QuietError"})
        for name in defined:
            self.assertEqual(getattr(errors, name).__module__, "quietrows.errors")

    def test_the_base_derives_from_value_error(self):
        self.assertEqual(errors.QuietError.__bases__, (ValueError,))
        self.assertEqual(errors.QuietError().told(), "refused quieterror")

    def test_each_error_derives_directly_from_the_base(self):
        for name in FIELDS:
            with self.subTest(name):
                self.assertEqual(getattr(errors, name).__bases__, (errors.QuietError,))

    def test_each_error_defines_its_own_told(self):
        for name in FIELDS:
            with self.subTest(name):
                self.assertIn("told", vars(getattr(errors, name)))
                self.assertEqual(error_made(name, 3).told(), "refused " + name.lower())

    def test_each_error_has_its_field_by_position_and_by_keyword(self):
        for name, field in FIELDS.items():
            with self.subTest(name):
                if field is None:
                    self.assertEqual(vars(error_made(name, None)), {})
                    with self.assertRaises(TypeError):
                        raise getattr(errors, name)(place=1)
                else:
                    self.assertEqual(vars(error_made(name, -7)), {field: -7})
                    self.assertEqual(vars(getattr(errors, name)(**{field: 10 ** 59})), {field: 10 ** 59})

    def test_errors_keep_what_they_are_given_lists_too(self):
        for name, field in FIELDS.items():
            if field is not None:
                given = [1, [2]]
                self.assertIs(getattr(error_made(name, given), field), given)

    def test_errors_are_caught_by_their_name_by_the_base_and_as_value_errors(self):
        for name in FIELDS:
            for caught in (getattr(errors, name), errors.QuietError, ValueError):
                with self.subTest(name), self.assertRaises(caught):
                    raise error_made(name, 0)

    def test_no_error_is_caught_by_another_ones_name(self):
        for name in FIELDS:
            for other in set(FIELDS) - {name}:
                self.assertNotIsInstance(error_made(name, 0), getattr(errors, other))
