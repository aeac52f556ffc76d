"""Promises 53 and 4: the errors and what they keep."""

import unittest

from treequill import errors

FIELDS = {
    "BadKind": ("kind",),
    "BadField": ("kind", "name"),
    "BadNode": (),
    "BadMode": ("mode",),
    "BadText": ("lineno", "col_offset"),
    "BadPlace": (),
    "NoText": ("path",),
    "BadChange": ("kind", "name"),
    "BadFloat": (),
    "NotLiteral": ("path",),
    "BadScope": ("name", "lineno", "col_offset"),
}


class Silent:
    """An object that can be neither compared, hashed nor shown."""

    def __eq__(self, other):
        raise AssertionError("compared")

    def __repr__(self):
        raise AssertionError("shown")

    __hash__ = None


OBJECTS = ("", "Name", 0, -3, 10 ** 300, 1.5, True, False, None, (), (1, ("a",)), [], [1, [2]], {}, object(),
    Silent(), int)


class ErrorsTest(unittest.TestCase):
    def test_classes(self):
        self.assertEqual(errors.TreeError.__bases__, (ValueError,))
        for name in FIELDS:
            self.assertEqual(getattr(errors, name).__bases__, (errors.TreeError,))
            self.assertEqual(getattr(errors, name).__module__, "treequill.errors")

    def test_there_are_no_others(self):
        below = [made.__name__ for made in errors.TreeError.__subclasses__()]
        self.assertEqual(sorted(below), sorted(FIELDS))

    def test_fields_are_the_objects_passed(self):
        for name, fields in FIELDS.items():
            made = getattr(errors, name)
            for at in range(len(OBJECTS)):
                passed = [OBJECTS[(at + step) % len(OBJECTS)] for step in range(len(fields))]
                for error in (made(*passed), made(**dict(zip(fields, passed)))):
                    self.assertIs(error.__class__, made)
                    self.assertIsInstance(error, errors.TreeError)
                    self.assertIsInstance(error, ValueError)
                    for field, thing in zip(fields, passed):
                        self.assertIs(getattr(error, field), thing)

    def test_names_in_another_order(self):
        error = errors.BadScope(col_offset=3, name="a", lineno=2)
        self.assertEqual((error.name, error.lineno, error.col_offset), ("a", 2, 3))
        error = errors.BadField("Name", name="b")
        self.assertEqual((error.kind, error.name), ("Name", "b"))

    def test_several_at_once(self):
        for name, fields in FIELDS.items():
            alive = [getattr(errors, name)(*[(number, field) for field in fields]) for number in range(5)]
            for number, error in enumerate(alive):
                for field in fields:
                    self.assertEqual(getattr(error, field), (number, field))

    def test_a_list_that_changes_later(self):
        path = ["body"]
        for made in (errors.NoText, errors.NotLiteral, errors.BadKind, errors.BadMode):
            error = made(path)
            path.append(1)
            [kept] = [thing for thing in vars(error).values()]
            self.assertIs(kept, path)

    def test_raised_and_caught(self):
        for name, fields in FIELDS.items():
            made = getattr(errors, name)
            for above in (made, errors.TreeError, ValueError):
                with self.assertRaises(above) as caught:
                    raise made(*fields)
                self.assertIs(type(caught.exception), made)

    def test_another_class_does_not_catch_it(self):
        for name, fields in FIELDS.items():
            for other in FIELDS:
                error = getattr(errors, name)(*fields)
                self.assertEqual(isinstance(error, getattr(errors, other)), name == other)

    def test_wrong_numbers_of_fields(self):
        for name, fields in FIELDS.items():
            if fields:
                with self.assertRaises(TypeError):
                    getattr(errors, name)()
                with self.assertRaises(TypeError):
                    getattr(errors, name)(*fields, 1)


if __name__ == "__main__":
    unittest.main()
