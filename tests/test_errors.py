"""The errors: their classes and attributes."""

import unittest

from liftheard import errors

WITHOUT_ATTRIBUTES = (
    "UnknownFloor", "InvalidNumber", "NoWay", "UnknownRule", "TooMany", "NoCall", "InvalidName", "UnknownMark",
)
WITH_INDEX = ("InvalidLog", "InvalidRiders", "InvalidCalls", "InvalidNights", "InvalidOperation")
WITH_OTHERS = {
    "InvalidHouse": ("part", "index"),
    "InvalidText": ("row", "word"),
    "DecodeError": ("offset",),
    "DaybookError": ("row", "word"),
}


class TestErrors(unittest.TestCase):

    def test_base_class(self):
        self.assertEqual(errors.LiftError.__bases__, (ValueError,))

    def test_direct_subclasses(self):
        for name in (*WITHOUT_ATTRIBUTES, *WITH_INDEX, *WITH_OTHERS):
            with self.subTest(name=name):
                found = getattr(errors, name)
                self.assertEqual(found.__bases__, (errors.LiftError,))
                self.assertEqual(found.__module__, "liftheard.errors")

    def test_without_attributes(self):
        for name in WITHOUT_ATTRIBUTES:
            with self.subTest(name=name):
                self.assertEqual(vars(getattr(errors, name)()), {})

    def test_with_index(self):
        for name in WITH_INDEX:
            with self.subTest(name=name):
                self.assertEqual(vars(getattr(errors, name)(7)), {"index": 7})
                self.assertEqual(getattr(errors, name)(index=7).index, 7)

    def test_with_other_attributes(self):
        for name, attributes in WITH_OTHERS.items():
            with self.subTest(name=name):
                values = list(range(3, 3 + len(attributes)))
                expected = dict(zip(attributes, values))
                self.assertEqual(vars(getattr(errors, name)(*values)), expected)
                self.assertEqual(vars(getattr(errors, name)(**expected)), expected)

    def test_messages_are_texts(self):
        self.assertIn("3", str(errors.InvalidLog(3)))
        self.assertIn("gaps", str(errors.InvalidHouse("gaps", 3)))


if __name__ == "__main__":
    unittest.main()
