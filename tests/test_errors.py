"""Point 2 and the interface: the errors."""

import unittest

import lednames.errors
from lednames.errors import (BadAnswer, BadLabels, BadRow, BadTable, BadText, BadWord, Large, LedError, NoBack,
                             NoName, NoPlace, NoRow)

FIELDS = [
    (NoName, ("name",)), (BadRow, ("what",)), (BadTable, ("what", "name")), (BadWord, ("place",)),
    (NoPlace, ("place",)), (BadAnswer, ()), (BadLabels, ("place",)), (NoRow, ()), (Large, ("count",)),
    (BadText, ("place",)), (NoBack, ()),
]


class ErrorsTest(unittest.TestCase):
    def test_bases(self):
        self.assertEqual(LedError.__bases__, (ValueError,))
        for kind, fields in FIELDS:
            self.assertEqual(kind.__bases__, (LedError,), kind)
            self.assertEqual(kind.__module__, "lednames.errors")
            self.assertIs(getattr(lednames.errors, kind.__name__), kind)

    def test_each_class_defines_told_itself(self):
        for kind, fields in FIELDS + [(LedError, ())]:
            self.assertIn("told", vars(kind), kind)

    def test_told(self):
        told = [kind(*fields).told() for kind, fields in FIELDS]
        self.assertEqual(told, [
            "refused noname", "refused badrow", "refused badtable", "refused badword", "refused noplace",
            "refused badanswer", "refused badlabels", "refused norow", "refused large", "refused badtext",
            "refused noback"])

    def test_fields_by_place_and_by_name(self):
        for kind, fields in FIELDS:
            given = [["a list", at] for at in range(len(fields))]
            by_name = kind(**dict(zip(fields, given)))
            for error in (kind(*given), by_name):
                for field, value in zip(fields, given):
                    self.assertIs(getattr(error, field), value)

    def test_errors_keep_the_very_thing(self):
        for thing in (["a"], ("a",), True, 10 ** 2000, {"a": 1}, object()):
            self.assertIs(NoName(thing).name, thing)
            self.assertIs(NoPlace(thing).place, thing)
            self.assertIs(Large(thing).count, thing)

    def test_they_are_raised_as_value_errors(self):
        for kind, fields in FIELDS:
            with self.assertRaises(ValueError):
                raise kind(*fields)
            with self.assertRaises(LedError):
                raise kind(*fields)


if __name__ == "__main__":
    unittest.main()
