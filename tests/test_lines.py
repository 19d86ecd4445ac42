import math
import unittest
from fractions import Fraction

from throwgate.lines import height_at, line_by, passes

GREAT = 10 ** 40
EDGES = (-1000, -999, -37, -1, 0, 1, 36, 999, 1000)


def true_height(throw, place):
    return Fraction(throw[0], throw[1]) + place * Fraction(throw[2], throw[3])


class HeightAtTest(unittest.TestCase):
    def check(self, throw, place, wanted):
        with self.subTest(throw=throw, place=place):
            told = height_at(throw, place)
            self.assertIs(type(told), tuple)
            self.assertEqual([type(number) for number in told], [int, int])
            self.assertEqual(told, wanted)

    def test_place_nought(self):
        self.check((7, 3, 5, 2), 0, (7, 3))
        self.check((-7, 3, 5, 2), 0, (-7, 3))
        self.check((0, 1, 5, 2), 0, (0, 1))
        self.check((6, 4, 5, 2), 0, (3, 2))

    def test_ordinary_places(self):
        self.check((5, 3, 1, 3), 1, (2, 1))
        self.check((5, 3, 1, 3), 2, (7, 3))
        self.check((5, 3, 1, 3), 4, (3, 1))
        self.check((1, 2, 1, 3), 1, (5, 6))
        self.check((1, 2, -1, 3), 1, (1, 6))
        self.check((4, 1, 0, 1), 1000, (4, 1))

    def test_places_below_nought(self):
        self.check((5, 3, 1, 3), -1, (4, 3))
        self.check((5, 3, 1, 3), -5, (0, 1))
        self.check((5, 3, -1, 3), -4, (3, 1))
        self.check((1, 2, 3, 4), -1000, (-1499, 2))

    def test_throws_not_in_lowest_terms(self):
        self.check((10, 6, 4, 12), 4, (3, 1))
        self.check((0, 9, 0, 5), 3, (0, 1))
        self.check((2, 4, 2, 4), 1, (1, 1))
        self.check((-2, 4, 3, 6), 1, (0, 1))

    def test_great_numbers(self):
        self.check((GREAT, 1, 1, GREAT), GREAT, (GREAT + 1, 1))
        self.check((999999999, 999999998, 1, 999999997), 0, (999999999, 999999998))
        self.check((1, GREAT, -1, GREAT), 1, (0, 1))
        self.check((6 * GREAT, 4 * GREAT, 10 * GREAT, 4 * GREAT), -1, (-1, 1))

    def test_lowest_terms_everywhere(self):
        bottoms = (1, 2, 3, 4, 6)
        for throw in [(h, a, r, b) for h in (-4, -1, 0, 3) for a in bottoms for r in (-6, -1, 0, 5) for b in bottoms]:
            for place in (-12, -5, -1, 0, 1, 4, 9):
                told = height_at(throw, place)
                with self.subTest(throw=throw, place=place):
                    self.assertGreaterEqual(told[1], 1)
                    self.assertEqual(math.gcd(told[0], told[1]), 1)
                    self.assertEqual(Fraction(told[0], told[1]), true_height(throw, place))


class LineByTest(unittest.TestCase):
    def check_throw(self, question):
        place, height, other, second = question
        throw = line_by(place, height, other, second)
        self.assertIs(type(throw), tuple)
        self.assertEqual([type(number) for number in throw], [int] * 4)
        self.assertTrue(throw[1] >= 1 and throw[3] >= 1, question)
        self.assertEqual((math.gcd(throw[0], throw[1]), math.gcd(throw[2], throw[3])), (1, 1), question)
        self.assertTrue(all(-999999999 <= number <= 999999999 for number in throw), question)
        self.assertEqual(true_height(throw, place), height, question)
        self.assertEqual(true_height(throw, other), second, question)
        self.assertEqual(height_at(throw, place), (height, 1), question)
        self.assertEqual(height_at(throw, other), (second, 1), question)
        self.assertEqual(line_by(other, second, place, height), throw, question)

    def test_ordinary(self):
        self.assertEqual(line_by(1, 2, 4, 3), (5, 3, 1, 3))
        self.assertEqual(line_by(0, 5, 2, 9), (5, 1, 2, 1))
        self.assertEqual(line_by(-2, 0, 2, 1), (1, 2, 1, 4))

    def test_either_place_the_greater_one(self):
        self.assertEqual(line_by(4, 3, 1, 2), (5, 3, 1, 3))
        self.assertEqual(line_by(2, 9, 0, 5), (5, 1, 2, 1))
        self.assertEqual(line_by(3, 0, -3, 4), (2, 1, -2, 3))

    def test_falling(self):
        self.assertEqual(line_by(1, 3, 4, 2), (10, 3, -1, 3))
        self.assertEqual(line_by(0, 0, 7, -1), (0, 1, -1, 7))

    def test_equal_heights(self):
        self.assertEqual(line_by(-7, 4, 8, 4), (4, 1, 0, 1))
        self.assertEqual(line_by(8, -4, -7, -4), (-4, 1, 0, 1))
        self.assertEqual(line_by(5, 0, 6, 0), (0, 1, 0, 1))

    def test_places_next_to_each_other(self):
        self.assertEqual(line_by(999, -1000, 1000, 1000), (-1999000, 1, 2000, 1))
        self.assertEqual(line_by(-999, -1000, -1000, 1000), (-1999000, 1, -2000, 1))
        self.assertEqual(line_by(0, 1, 1, 0), (1, 1, -1, 1))

    def test_far_places(self):
        self.assertEqual(line_by(-1000, -1000, 1000, 1000), (0, 1, 1, 1))
        self.assertEqual(line_by(1000, -1000, -1000, 1000), (0, 1, -1, 1))
        self.assertEqual(line_by(-1000, 0, 1000, 1), (1, 2, 1, 2000))
        self.assertEqual(line_by(-999, 1000, 1000, 999), (1998001, 1999, -1, 1999))

    def test_every_pair_of_edges(self):
        for place in EDGES:
            for other in EDGES:
                if place != other:
                    for height in EDGES:
                        for second in EDGES:
                            self.check_throw((place, height, other, second))

    def test_nothing_is_refused_somewhat_beyond_the_bounds(self):
        self.check_throw((-1001, 1002, 1003, -1004))
        self.check_throw((1500, 1500, -1500, 0))

    def test_asked_again(self):
        first = line_by(1, 2, 4, 3)
        line_by(0, 0, 1, 1)
        self.assertEqual(line_by(1, 2, 4, 3), first)


class PassesTest(unittest.TestCase):
    def check(self, throw, gate, wanted):
        with self.subTest(throw=throw, gate=gate):
            self.assertIs(passes(throw, gate), wanted)

    def test_between(self):
        self.check((5, 3, 1, 3), (2, 0, 5), True)
        self.check((5, 3, 1, 3), (2, 2, 3), True)
        self.check((0, 1, 0, 1), (-1000, -1000, 1000), True)

    def test_far_below_and_far_above(self):
        self.check((0, 1, 0, 1), (3, 1, 5), False)
        self.check((9, 1, 0, 1), (3, 1, 5), False)

    def test_just_at_the_foot(self):
        self.check((5, 3, 1, 3), (4, 3, 10), True)
        self.check((0, 1, 1, 1), (-1000, -1000, 1000), True)

    def test_just_at_the_head(self):
        self.check((5, 3, 1, 3), (4, -10, 3), True)
        self.check((0, 1, 1, 1), (1000, -1000, 1000), True)

    def test_a_little_below_the_foot(self):
        self.check((2, 3, 1, 3), (4, 3, 10), False)
        self.check((999999998, 999999999, 0, 1), (0, 1, 2), False)
        self.check((-999999998, 999999997, 0, 1), (0, -1, 2), False)
        self.check((0, 1, 999999998, 999999999), (1, 1, 2), False)
        self.check((GREAT - 1, GREAT, 0, 1), (7, 1, 2), False)

    def test_a_little_above_the_head(self):
        self.check((8, 3, 1, 3), (4, 3, 3), False)
        self.check((999999999, 999999998, 0, 1), (0, 0, 1), False)
        self.check((-999999998, 999999999, 0, 1), (0, -2, -1), False)
        self.check((0, 1, 999999999, 999999998), (1, 0, 1), False)
        self.check((GREAT + 1, GREAT, 0, 1), (7, 0, 1), False)

    def test_a_little_within(self):
        self.check((999999999, 999999998, 0, 1), (0, 1, 2), True)
        self.check((1999999997, 999999999, 0, 1), (0, 1, 2), True)
        self.check((-999999999, 999999998, 0, 1), (0, -2, -1), True)

    def test_foot_and_head_at_one_height(self):
        self.check((5, 3, 1, 3), (4, 3, 3), True)
        self.check((5, 3, 1, 3), (4, 2, 2), False)
        self.check((5, 3, 1, 3), (4, 4, 4), False)
        self.check((5, 3, 1, 3), (2, 2, 2), False)
        self.check((5, 3, 1, 3), (-5, 0, 0), True)

    def test_rises_below_nought(self):
        self.check((10, 3, -1, 3), (4, 2, 2), True)
        self.check((10, 3, -1, 3), (5, 2, 9), False)
        self.check((10, 3, -1, 3), (-2, 4, 4), True)
        self.check((10, 3, -1, 3), (-3, 0, 4), False)

    def test_throws_not_in_lowest_terms(self):
        self.check((10, 6, 4, 12), (4, 3, 3), True)
        self.check((10, 6, 4, 12), (5, 3, 3), False)
        self.check((0, 8, 0, 4), (9, 0, 0), True)

    def test_a_throw_by_two_gates_own_heights(self):
        for place in EDGES:
            for other in EDGES:
                if place != other:
                    throw = line_by(place, 999, other, -998)
                    self.check(throw, (place, 999, 1000), True)
                    self.check(throw, (place, 1000, 1000), False)
                    self.check(throw, (other, -1000, -998), True)
                    self.check(throw, (other, -1000, -999), False)

    def test_nothing_is_refused_somewhat_beyond_the_bounds(self):
        self.check((0, 1, 1, 1), (1001, 1001, 1002), True)
        self.check((0, 1, 1, 1), (-1001, -1000, 1002), False)


if __name__ == "__main__":
    unittest.main()
