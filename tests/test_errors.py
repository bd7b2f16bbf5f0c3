import unittest

from oilwalk import errors

ATTRIBUTES = {
    "InvalidWay": ("part", "index"),
    "UnknownPost": (),
    "InvalidNumber": (),
    "InvalidStretch": ("part",),
    "GoesOut": ("legs", "steps"),
    "AlreadyOpen": (),
    "InvalidOperation": ("index",),
    "Contradiction": (),
    "NotationError": ("row", "word"),
    "InvalidCount": (),
    "DecodeError": ("offset",),
}


class ErrorClasses(unittest.TestCase):
    def test_base_class_is_a_value_error(self):
        self.assertEqual(errors.WalkError.__bases__, (ValueError,))

    def test_all_other_classes_are_direct_subclasses(self):
        for name in ATTRIBUTES:
            with self.subTest(name):
                self.assertEqual(getattr(errors, name).__bases__, (errors.WalkError,))

    def test_there_are_no_other_classes(self):
        found = [name for name, value in vars(errors).items() if isinstance(value, type)]
        self.assertEqual(sorted(found), sorted(["WalkError", *ATTRIBUTES]))

    def test_all_are_defined_in_this_file(self):
        for name in ["WalkError", *ATTRIBUTES]:
            with self.subTest(name):
                self.assertEqual(getattr(errors, name).__module__, "oilwalk.errors")

    def test_attributes_are_set_in_their_order(self):
        for name, attributes in ATTRIBUTES.items():
            values = [f"{attribute} told" for attribute in attributes]
            with self.subTest(name):
                made = getattr(errors, name)(*values)
                self.assertEqual(vars(made), dict(zip(attributes, values)))

    def test_attributes_have_their_names_as_arguments(self):
        for name, attributes in ATTRIBUTES.items():
            told = {attribute: at for at, attribute in enumerate(attributes)}
            with self.subTest(name):
                self.assertEqual(vars(getattr(errors, name)(**told)), told)

    def test_all_have_a_message(self):
        self.assertIn("posts", str(errors.InvalidWay("posts", 3)))
        self.assertIn("3", str(errors.InvalidWay("posts", 3)))
        self.assertIn("gain", str(errors.InvalidStretch("gain")))
        self.assertIn("7", str(errors.GoesOut(7, 2)))
        self.assertIn("7", str(errors.InvalidOperation(7)))
        self.assertIn("7", str(errors.NotationError(7, 2)))
        self.assertIn("7", str(errors.DecodeError(7)))


if __name__ == "__main__":
    unittest.main()
