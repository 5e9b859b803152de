"""Point 0.4, and the interface of lumprow.errors."""

import unittest

from lumprow import errors

PLAIN = ("BadRow", "TooMany", "BadSeats", "BadTable", "Unlike", "NoRow")
WITH_AT = ("BadText", "BadDeed")


class Classes(unittest.TestCase):
    def test_lump_error_is_a_value_error(self):
        self.assertEqual(errors.LumpError.__bases__, (ValueError,))

    def test_each_is_straight_beneath_lump_error(self):
        for name in PLAIN + WITH_AT:
            self.assertEqual(getattr(errors, name).__bases__, (errors.LumpError,), name)

    def test_eight_classes_of_their_own(self):
        self.assertEqual(len({getattr(errors, name) for name in PLAIN + WITH_AT}), 8)

    def test_made_with_a_text_or_with_nothing(self):
        for name in PLAIN:
            kind = getattr(errors, name)
            self.assertIsInstance(kind(), errors.LumpError)
            self.assertEqual(str(kind("some words")), "some words")

    def test_field_at(self):
        for name in WITH_AT:
            for at in (1, 2, 5000, 10 ** 60):
                self.assertEqual(getattr(errors, name)(at).at, at)

    def test_made_with_one_number_alone(self):
        for name in WITH_AT:
            self.assertRaises(TypeError, getattr(errors, name))
            self.assertRaises(TypeError, getattr(errors, name), 1, 2)

    def test_field_at_is_its_own(self):
        one = errors.BadText(1)
        two = errors.BadText(2)
        self.assertEqual((one.at, two.at), (1, 2))


if __name__ == "__main__":
    unittest.main()
