import unittest

from throwgate import errors

NAMES = (
    "NoGate", "Taken", "UpsideDown", "OutOfBounds", "BeachFull", "DeedsFull",
    "NothingBack", "BadList", "TooFew", "WrongSize", "BadThrow", "BadRow",
)


class ErrorsTest(unittest.TestCase):
    def test_beach_error_is_a_value_error(self):
        self.assertEqual(errors.BeachError.__bases__, (ValueError,))

    def test_each_stands_straight_under_beach_error(self):
        for name in NAMES:
            with self.subTest(name=name):
                self.assertEqual(getattr(errors, name).__bases__, (errors.BeachError,))

    def test_each_bears_its_name(self):
        for name in NAMES:
            with self.subTest(name=name):
                self.assertEqual(getattr(errors, name).__name__, name)

    def test_none_stands_under_another(self):
        for name in NAMES:
            for other in NAMES:
                if name != other:
                    with self.subTest(name=name, other=other):
                        self.assertFalse(issubclass(getattr(errors, name), getattr(errors, other)))

    def test_each_is_raised_and_taken_as_a_beach_error(self):
        for name in NAMES:
            with self.subTest(name=name):
                with self.assertRaises(errors.BeachError):
                    raise getattr(errors, name)("words")
                with self.assertRaises(ValueError):
                    raise getattr(errors, name)()


if __name__ == "__main__":
    unittest.main()
