"""[3]: the exception classes."""

import unittest

from crewlags import errors
from crewlags.errors import CrewError
from tests.support import THREE, looped, odd_values

FIELDS = {
    "NoNumber": ("part",), "NoShape": ("part", "index"), "NoSet": ("some",), "NoDurations": ("index",),
    "NoWeights": ("index",), "NoBound": ("part", "index"), "NoPairs": ("index",), "NoOrder": ("index",),
    "NoGraph": ("index",), "NoStarts": ("index",), "NoSchedule": ("fault",), "NoActivity": ("one",),
    "NoText": ("line",), "NoChange": ("word",), "NoCalendar": ("part", "index"), "NoProject": ("part", "index"),
    "NoChoice": ("index",), "NoAhead": ("index",), "NoDerivation": ("part", "index"), "NoPlan": ("fault",),
    "NoRota": ("part", "index"), "NoMix": ("index",), "NoBlind": ("part", "index"), "NoFixed": ("index",),
    "NotBeside": ("part",), "NoBox": ("index",), "TooGreat": ("most",),
}


class ErrorClasses(unittest.TestCase):
    def test_crew_error_derives_from_value_error(self):
        self.assertEqual(CrewError.__bases__, (ValueError,))

    def test_each_class_derives_directly_from_crew_error(self):
        for name in FIELDS:
            self.assertEqual(getattr(errors, name).__bases__, (CrewError,), name)

    def test_each_class_is_defined_in_its_file(self):
        for name in list(FIELDS) + ["CrewError"]:
            self.assertEqual(getattr(errors, name).__module__, "crewlags.errors")

    def test_fields_by_position(self):
        for name, fields in FIELDS.items():
            told = [object() for _ in fields]
            error = getattr(errors, name)(*told)
            for field, value in zip(fields, told):
                self.assertIs(getattr(error, field), value)

    def test_fields_by_name(self):
        for name, fields in FIELDS.items():
            told = {field: object() for field in fields}
            error = getattr(errors, name)(**told)
            for field in fields:
                self.assertIs(getattr(error, field), told[field])

    def test_fields_may_be_any_values_and_are_kept(self):
        for value in odd_values() + [THREE, looped(), 1.5, [], ()]:
            for name, fields in FIELDS.items():
                error = getattr(errors, name)(*[value for _ in fields])
                for field in fields:
                    self.assertIs(getattr(error, field), value)

    def test_fields_are_what_is_asked_for_and_no_more(self):
        for name, fields in FIELDS.items():
            with self.assertRaises(TypeError):
                getattr(errors, name)()
            with self.assertRaises(TypeError):
                getattr(errors, name)(*range(len(fields) + 1))
            self.assertEqual(sorted(vars(getattr(errors, name)(*fields))), sorted(fields))

    def test_they_are_caught_as_what_they_are(self):
        for name, fields in FIELDS.items():
            kind = getattr(errors, name)
            for caught in (kind, CrewError, ValueError):
                with self.assertRaises(caught):
                    raise kind(*fields)

    def test_an_error_is_equal_to_nothing_else(self):
        for name, fields in FIELDS.items():
            error = getattr(errors, name)(*fields)
            for value in odd_values() + [fields, list(fields), name]:
                self.assertFalse(error == value)
                self.assertTrue(error != value)


if __name__ == "__main__":
    unittest.main()
