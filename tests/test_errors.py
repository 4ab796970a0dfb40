"""The interface's row ropewarren/errors.py."""

import copy
import unittest

from ropewarren import errors
from ropewarren.errors import WarrenError

FIELDS = {
    "NoHouse": (), "NoRope": (), "NoStand": (), "NoBack": (), "NoText": (), "Flapped": (),
    "NoEnd": ("end",), "NoPlace": ("place",), "NoPipe": ("pipe",), "NoAt": ("at",), "NoRoom": ("room",),
    "NoBy": ("by",), "NoBit": ("behind",), "NoSize": ("size",), "NoWay": ("way",), "NoKnot": ("knot",),
    "NoName": ("name",), "Twice": ("thing",), "Full": ("what",), "Back": ("place",), "Stuck": ("knot",),
    "Under": ("pipe",), "Unseen": ("number",), "TooMany": ("most",), "Barred": ("table",),
    "Shut": ("pipe", "at"), "Tight": ("pipe", "at"), "NoNarrow": ("pipe", "at"), "NoFlap": ("pipe", "at"),
    "NoPart": ("first", "last"),
}
HANDED_IN = (None, True, False, 0, -1, 10 ** 39, "", "text", (), (1, (2,)), [], [1, [2]], {}, {"a": [1]})


def classes():
    return {name: getattr(errors, name) for name in FIELDS}


def made(name):
    return getattr(errors, name)(*range(len(FIELDS[name])))


class Errors(unittest.TestCase):

    def test_each_stands_in_its_file(self):
        for name, kind in classes().items():
            self.assertEqual((kind.__name__, kind.__module__), (name, "ropewarren.errors"))

    def test_warren_error_is_a_value_error(self):
        self.assertTrue(issubclass(WarrenError, ValueError))
        self.assertEqual(WarrenError.__module__, "ropewarren.errors")

    def test_all_are_warren_errors(self):
        for name in FIELDS:
            self.assertIsInstance(made(name), WarrenError)
            self.assertIsInstance(made(name), ValueError)

    def test_none_is_under_another_one(self):
        for name in FIELDS:
            kin = [other for other, kind in classes().items() if isinstance(made(name), kind)]
            self.assertEqual(kin, [name])

    def test_bears_its_fields_in_their_order(self):
        for name, fields in FIELDS.items():
            error = made(name)
            self.assertEqual(vars(error), {field: at for at, field in enumerate(fields)}, name)

    def test_fields_can_be_named(self):
        for name, fields in FIELDS.items():
            error = getattr(errors, name)(**{field: field for field in fields})
            self.assertEqual(vars(error), {field: field for field in fields}, name)

    def test_bears_them_as_handed_in(self):
        for name, fields in FIELDS.items():
            for things in zip(HANDED_IN, HANDED_IN[1:]):
                given = things[:len(fields)]
                held = copy.deepcopy(given)
                error = getattr(errors, name)(*given)
                for field, thing in zip(fields, given):
                    self.assertIs(getattr(error, field), thing)
                self.assertEqual(given, held)

    def test_can_be_raised_and_caught(self):
        for name, kind in classes().items():
            with self.assertRaises(kind):
                raise made(name)
            with self.assertRaises(WarrenError):
                raise made(name)

    def test_a_field_too_few_makes_none(self):
        for name, fields in FIELDS.items():
            if fields:
                with self.assertRaises(TypeError):
                    getattr(errors, name)(*fields[1:])

    def test_can_be_shown(self):
        for name in FIELDS:
            self.assertIsInstance(str(made(name)), str)
            self.assertIn(name, repr(made(name)))


if __name__ == "__main__":
    unittest.main()
