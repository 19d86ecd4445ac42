import math
import unittest

from throwgate.fracs import compare, lowest

GREAT = 10 ** 40


class LowestTest(unittest.TestCase):
    def check(self, top, bottom, wanted):
        with self.subTest(top=top, bottom=bottom):
            told = lowest(top, bottom)
            self.assertIs(type(told), tuple)
            self.assertEqual([type(number) for number in told], [int, int])
            self.assertEqual(told, wanted)

    def test_nought(self):
        for bottom in (1, 2, 7, 1000, GREAT, -1, -2, -7, -GREAT):
            self.check(0, bottom, (0, 1))

    def test_common_factors(self):
        self.check(6, 4, (3, 2))
        self.check(4, 6, (2, 3))
        self.check(5, 5, (1, 1))
        self.check(12, 4, (3, 1))
        self.check(4, 12, (1, 3))
        self.check(360, 84, (30, 7))

    def test_below_nought(self):
        self.check(-6, 4, (-3, 2))
        self.check(6, -4, (-3, 2))
        self.check(-6, -4, (3, 2))
        self.check(7, -1, (-7, 1))
        self.check(-7, -1, (7, 1))
        self.check(-5, 5, (-1, 1))
        self.check(5, -5, (-1, 1))
        self.check(-5, -5, (1, 1))
        self.check(-1, -3, (1, 3))

    def test_already_lowest(self):
        for fraction in ((1, 1), (-1, 1), (1, 2), (-3, 2), (7, 9), (999999999, 1000000000), (5, 1)):
            self.check(fraction[0], fraction[1], fraction)

    def test_great_numbers(self):
        self.check(GREAT, GREAT, (1, 1))
        self.check(6 * GREAT, 4 * GREAT, (3, 2))
        self.check(-6 * GREAT, 4 * GREAT, (-3, 2))
        self.check(6 * GREAT, -4 * GREAT, (-3, 2))
        self.check(GREAT + 1, GREAT, (GREAT + 1, GREAT))
        self.check(3 ** 200 * 7, 3 ** 199 * 11, (21, 11))
        self.check((GREAT + 1) * GREAT ** 5, -GREAT ** 6, (-GREAT - 1, GREAT))
        self.check(10 ** 500, 10 ** 499, (10, 1))

    def test_many_steps(self):
        one, two = 1, 1
        for step in range(3000):
            one, two = two, one + two
        self.check(5 * one, 5 * two, (one, two))

    def test_every_small_fraction(self):
        for top in range(-40, 41):
            for bottom in range(-40, 41):
                if bottom != 0:
                    told = lowest(top, bottom)
                    with self.subTest(top=top, bottom=bottom):
                        self.assertGreaterEqual(told[1], 1)
                        self.assertEqual(math.gcd(told[0], told[1]), 1)
                        self.assertEqual(told[0] * bottom, told[1] * top)

    def test_asked_again(self):
        first = lowest(6, -4)
        lowest(1, 3)
        lowest(0, 5)
        self.assertEqual(lowest(6, -4), first)


class CompareTest(unittest.TestCase):
    def check(self, one, two, wanted):
        for first, second, answer in ((one, two, wanted), (two, one, -wanted)):
            with self.subTest(first=first, second=second):
                told = compare(first, second)
                self.assertIs(type(told), int)
                self.assertEqual(told, answer)

    def test_less_and_greater(self):
        self.check((1, 3), (1, 2), -1)
        self.check((2, 3), (3, 4), -1)
        self.check((1, 1000), (1, 999), -1)
        self.check((0, 1), (1, 1000), -1)
        self.check((5, 2), (3, 1), -1)

    def test_equal(self):
        self.check((0, 1), (0, 1), 0)
        self.check((5, 7), (5, 7), 0)
        self.check((-5, 7), (-5, 7), 0)

    def test_equal_but_written_unlike(self):
        self.check((1, 2), (3, 6), 0)
        self.check((4, 2), (2, 1), 0)
        self.check((0, 1), (0, 9), 0)
        self.check((-2, 4), (-5, 10), 0)
        self.check((6 * GREAT, 4 * GREAT), (3, 2), 0)

    def test_tops_below_nought(self):
        self.check((-1, 2), (-1, 3), -1)
        self.check((-1, 2), (1, 3), -1)
        self.check((-1, 2), (0, 1), -1)
        self.check((-7, 3), (-2, 1), -1)
        self.check((-1, 2), (1, 2), -1)

    def test_nearly_equal_great_numbers(self):
        self.check((GREAT, GREAT + 1), (GREAT + 1, GREAT + 2), -1)
        self.check((GREAT - 1, GREAT), (1, 1), -1)
        self.check((-GREAT - 1, GREAT), (-1, 1), -1)
        self.check((GREAT, 3), (GREAT + 1, 3), -1)
        self.check((10 ** 16, 1), (10 ** 16 + 1, 1), -1)
        self.check((1, GREAT + 1), (1, GREAT), -1)

    def test_not_in_lowest_terms(self):
        self.check((2, 6), (2, 4), -1)
        self.check((10, 4), (9, 3), -1)
        self.check((-6, 4), (-6, 6), -1)

    def test_every_small_pair(self):
        fractions = [(top, bottom) for top in range(-6, 7) for bottom in range(1, 7)]
        for one in fractions:
            for two in fractions:
                # 60 is a multiple of every bottom here.
                left = one[0] * (60 // one[1])
                right = two[0] * (60 // two[1])
                wanted = (left > right) - (left < right)
                with self.subTest(one=one, two=two):
                    self.assertEqual(compare(one, two), wanted)

    def test_asked_again(self):
        self.assertEqual(compare((1, 2), (2, 3)), -1)
        self.assertEqual(compare((2, 3), (1, 2)), 1)
        self.assertEqual(compare((1, 2), (2, 3)), -1)


if __name__ == "__main__":
    unittest.main()
