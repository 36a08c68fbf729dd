import unittest

from pourback import errors

NAMES = (
    "NoParts",
    "NoShare",
    "NoRow",
    "NoMany",
    "NoLefts",
    "NoPlace",
    "NoNumber",
    "NoDistance",
    "NoPour",
    "Full",
    "NothingLeft",
)


class Errors(unittest.TestCase):
    def test_any_refusal_is_a_value_error(self):
        self.assertEqual(errors.PourError.__bases__, (ValueError,))

    def test_each_stands_straight_under_pour_error(self):
        for name in NAMES:
            with self.subTest(name=name):
                self.assertEqual(getattr(errors, name).__bases__, (errors.PourError,))

    def test_each_is_defined_in_its_file_under_its_name(self):
        for name in NAMES + ("PourError",):
            with self.subTest(name=name):
                self.assertEqual(getattr(errors, name).__module__, "pourback.errors")
                self.assertEqual(getattr(errors, name).__name__, name)

    def test_each_is_made_of_a_text(self):
        for name in NAMES + ("PourError",):
            with self.subTest(name=name):
                self.assertEqual(str(getattr(errors, name)("a text")), "a text")

    def test_none_is_caught_as_another_one(self):
        for name in NAMES:
            for other in NAMES:
                if name != other:
                    self.assertFalse(issubclass(getattr(errors, name), getattr(errors, other)))


if __name__ == "__main__":
    unittest.main()
