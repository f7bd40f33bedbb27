"""Tests of answerparts/errors.py: the classes and their fields."""

import unittest

from answerparts import errors

FIELDS = {
    "InvalidLists": (),
    "InvalidBlock": ("path",),
    "NoStatement": ("path",),
    "InvalidWorld": (),
    "WorldError": (),
    "InvalidLimit": (),
    "InvalidEvent": ("index",),
    "IsPossible": (),
    "InvalidText": ("line",),
}


class ErrorClasses(unittest.TestCase):
    def test_the_base_class_is_a_value_error(self):
        self.assertEqual(errors.AnswerError.__bases__, (ValueError,))
        self.assertEqual(errors.AnswerError.__module__, "answerparts.errors")

    def test_the_other_classes_are_direct_subclasses(self):
        found = {kind.__name__ for kind in errors.AnswerError.__subclasses__()}
        self.assertEqual(found, set(FIELDS))
        for name in FIELDS:
            with self.subTest(name=name):
                kind = getattr(errors, name)
                self.assertEqual(kind.__bases__, (errors.AnswerError,))
                self.assertEqual(kind.__module__, "answerparts.errors")

    def test_the_fields_are_set_when_the_object_is_created(self):
        for name, fields in FIELDS.items():
            with self.subTest(name=name):
                values = [(7, 0, 1), (2,)][: len(fields)]
                error = getattr(errors, name)(*values)
                self.assertIsInstance(error, ValueError)
                self.assertEqual([getattr(error, field) for field in fields], values)
                self.assertEqual(vars(error), dict(zip(fields, values)))

    def test_a_field_is_asked_for(self):
        for name, fields in FIELDS.items():
            if fields:
                with self.subTest(name=name), self.assertRaises(TypeError):
                    getattr(errors, name)()

    def test_a_path_of_any_kind_is_kept(self):
        for path in ((), (0, 1, 2), None, "a", [0], (10 ** 5000,)):
            with self.subTest(kind=type(path)):
                self.assertIs(errors.NoStatement(path).path, path)


if __name__ == "__main__":
    unittest.main()
