import unittest

from crossparity import errors

WITH_ATTRIBUTE = {
    "NoGraph": "why",
    "NoRecord": "at",
    "NoCarry": "at",
    "NoDrawing": "why",
    "NoEdge": "edge",
    "NotDrawable": "witness",
}
WITHOUT_ATTRIBUTE = ["NoOrder", "NoWitness", "NoMost"]
VALUES = ["vertices", "edges", "points", -1, 0, 7, None, ("a", "b"), [("a", "b")], [], {}, object()]


class ErrorsTest(unittest.TestCase):
    def test_the_base_class(self):
        self.assertEqual(errors.ParityError.__bases__, (ValueError,))
        self.assertIsInstance(errors.ParityError(), ValueError)

    def test_each_class_is_a_direct_subclass(self):
        for name in [*WITH_ATTRIBUTE, *WITHOUT_ATTRIBUTE]:
            with self.subTest(name):
                self.assertEqual(getattr(errors, name).__bases__, (errors.ParityError,))
                self.assertEqual(getattr(errors, name).__name__, name)

    def test_each_class_stands_alone(self):
        made = [getattr(errors, name) for name in [*WITH_ATTRIBUTE, *WITHOUT_ATTRIBUTE]]
        self.assertEqual(len(set(made)), 9)

    def test_attributes_are_as_passed(self):
        for name, attribute in WITH_ATTRIBUTE.items():
            for value in VALUES:
                with self.subTest(name, value=value):
                    error = getattr(errors, name)(value)
                    self.assertIs(getattr(error, attribute), value)
                    self.assertEqual(vars(error), {attribute: value})

    def test_an_attribute_is_required(self):
        for name in WITH_ATTRIBUTE:
            with self.subTest(name), self.assertRaises(TypeError):
                getattr(errors, name)()

    def test_classes_without_attributes(self):
        for name in ["ParityError", *WITHOUT_ATTRIBUTE]:
            with self.subTest(name):
                self.assertEqual(vars(getattr(errors, name)()), {})

    def test_they_are_caught_as_value_errors(self):
        for name in WITH_ATTRIBUTE:
            with self.subTest(name), self.assertRaises(ValueError):
                raise getattr(errors, name)(1)
        for name in ["ParityError", *WITHOUT_ATTRIBUTE]:
            with self.subTest(name), self.assertRaises(ValueError):
                raise getattr(errors, name)()
