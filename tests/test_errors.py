"""The classes of refusals, as the interface lists them."""

import unittest

from faruplink import errors
from faruplink.errors import LinkError

PLAIN = ("BadDelay", "BadWindows", "NoCommand", "NoWindow", "NoLetter", "BadReport", "TooMany", "BadCount", "Over")
VALUES = {"BadBook": "number", "BadLetters": "at", "BadStep": "number", "BadText": "row"}


def class_called(name):
    return getattr(errors, name)


class ErrorClasses(unittest.TestCase):
    def test_link_error_is_a_value_error(self):
        self.assertEqual(LinkError.__bases__, (ValueError,))

    def test_each_is_right_under_link_error(self):
        for name in (*PLAIN, *VALUES):
            with self.subTest(name):
                self.assertEqual(class_called(name).__bases__, (LinkError,))

    def test_none_is_under_another_one(self):
        names = (*PLAIN, *VALUES)
        for name in names:
            above = [other for other in names if issubclass(class_called(name), class_called(other))]
            self.assertEqual(above, [name])

    def test_an_object_is_caught_as_link_error_and_as_value_error(self):
        made = [class_called(name)("why") for name in PLAIN] + [class_called(name)(3) for name in VALUES]
        for error in made:
            with self.subTest(error.__class__.__name__):
                self.assertIsInstance(error, LinkError)
                self.assertIsInstance(error, ValueError)

    def test_those_without_a_value_are_made_of_nothing(self):
        for name in PLAIN:
            with self.subTest(name):
                self.assertEqual(vars(class_called(name)()), {})

    def test_a_value_is_set_when_the_object_is_created(self):
        for name, value in VALUES.items():
            for told in (0, 7, 400):
                with self.subTest(name, told=told):
                    self.assertEqual(vars(class_called(name)(told)), {value: told})

    def test_a_message_names_the_value(self):
        for name in VALUES:
            with self.subTest(name):
                self.assertIn("123", str(class_called(name)(123)))


if __name__ == "__main__":
    unittest.main()
