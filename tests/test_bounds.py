import unittest

from throwgate import bounds

VALUES = {
    "LEAST": -1000,
    "GREATEST": 1000,
    "MOST_GATES": 40,
    "MOST_DEEDS": 300,
    "SMALL_BEACH": 12,
    "GREAT_NUMBER": 999999999,
}


class BoundsTest(unittest.TestCase):
    def test_values(self):
        for name, value in VALUES.items():
            with self.subTest(name=name):
                self.assertEqual(getattr(bounds, name), value)

    def test_whole_numbers(self):
        for name in VALUES:
            with self.subTest(name=name):
                self.assertIs(type(getattr(bounds, name)), int)


if __name__ == "__main__":
    unittest.main()
