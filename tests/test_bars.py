import itertools
import unittest
from fractions import Fraction

from tests.shores import Dice, ShoreCase, edge_gates, first_of_all_threes, many_lists, some_throw_passes, wild_gates
from throwgate.bars import barring, first_three


def true_barring(one, two, three):
    share = Fraction(two[0] - one[0], three[0] - one[0])
    if two[1] > one[2] + share * (three[2] - one[2]):
        return "foot"
    if two[2] < one[1] + share * (three[1] - one[1]):
        return "head"
    return ""


class BarringTest(unittest.TestCase):
    def check(self, one, two, three, wanted):
        with self.subTest(one=one, two=two, three=three):
            told = barring(one, two, three)
            self.assertIs(type(told), str)
            self.assertEqual(told, wanted)

    def test_foot(self):
        self.check((0, 0, 1), (5, 8, 9), (10, 0, 1), "foot")
        self.check((-3, -9, -5), (-2, 4, 4), (8, -100, 3), "foot")

    def test_head(self):
        self.check((0, 8, 9), (5, 0, 1), (10, 8, 9), "head")
        self.check((-3, 5, 9), (-2, -4, -4), (8, -3, 100), "head")

    def test_neither(self):
        self.check((0, 0, 5), (5, 1, 9), (10, 2, 7), "")
        self.check((0, 0, 1), (5, 4, 5), (10, 8, 9), "")
        self.check((0, 8, 9), (5, 4, 5), (10, 0, 1), "")
        self.check((-7, -5, -5), (0, -1000, 1000), (9, 5, 5), "")

    def test_middle_foot_just_on_the_line(self):
        self.check((0, -9, 0), (2, 1, 9), (4, -9, 2), "")
        self.check((0, 0, 0), (3, 1, 1), (9, 3, 3), "")
        self.check((-1000, -1000, -1000), (0, 0, 1000), (1000, -1000, 1000), "")

    def test_middle_foot_a_fraction_above_the_line(self):
        self.check((0, -9, 0), (1, 1, 9), (3, -9, 2), "foot")
        self.check((0, -9, 0), (1, 0, 9), (3, -9, -1), "foot")
        self.check((-1000, -1000, 0), (999, 1, 1), (1000, -1000, 1), "foot")
        self.check((-1000, -1000, 0), (-999, 0, 0), (1000, -1000, -1), "foot")
        self.check((-1000, -1000, -999), (-999, -998, 1000), (1000, -1000, 1000), "foot")

    def test_middle_foot_a_fraction_below_the_line(self):
        self.check((0, -9, 0), (1, 0, 9), (3, -9, 2), "")
        self.check((0, -9, 0), (2, -1, 9), (3, -9, -1), "")
        self.check((-1000, -1000, 0), (999, 0, 1), (1000, -1000, 1), "")
        self.check((-1000, -1000, -999), (-999, -999, 1000), (1000, -1000, 1000), "")

    def test_middle_head_just_on_the_line(self):
        self.check((0, 0, 9), (2, -9, 1), (4, 2, 9), "")
        self.check((0, 0, 0), (3, -1, -1), (9, -3, -3), "")
        self.check((-1000, 1000, 1000), (0, -1000, 0), (1000, -1000, 1000), "")

    def test_middle_head_a_fraction_below_the_line(self):
        self.check((0, 0, 9), (1, -9, 0), (3, 2, 9), "head")
        self.check((0, 0, 9), (1, -9, -1), (3, -2, 9), "head")
        self.check((-1000, 0, 1000), (-999, -1000, 0), (1000, 1, 1000), "head")
        self.check((-1000, 0, 1000), (999, -1, -1), (1000, -1, 1000), "head")
        self.check((-1000, 999, 1000), (-999, -1000, 997), (1000, -1000, 1000), "head")

    def test_middle_head_a_fraction_above_the_line(self):
        self.check((0, 0, 9), (1, -9, 1), (3, 2, 9), "")
        self.check((0, 0, 9), (1, -9, 0), (3, -2, 9), "")
        self.check((-1000, 0, 1000), (999, -1000, 1), (1000, 1, 1000), "")
        self.check((-1000, 999, 1000), (-999, -1000, 999), (1000, -1000, 1000), "")

    def test_ends_at_the_bounds(self):
        self.check((-1000, -1000, -1000), (0, 1000, 1000), (1000, -1000, -1000), "foot")
        self.check((-1000, 1000, 1000), (0, -1000, -1000), (1000, 1000, 1000), "head")
        self.check((-1000, -1000, -1000), (0, -1000, -1000), (1000, -1000, -1000), "")
        self.check((-1000, 1000, 1000), (0, 1000, 1000), (1000, 1000, 1000), "")
        self.check((998, -1000, 1000), (999, -1000, 1000), (1000, -1000, 1000), "")

    def test_foot_and_head_at_one_height(self):
        self.check((1, 4, 4), (2, 5, 5), (3, 6, 6), "")
        self.check((1, 4, 4), (2, 6, 6), (3, 6, 6), "foot")
        self.check((1, 4, 4), (2, 4, 4), (3, 6, 6), "head")

    def test_every_small_three(self):
        ends = [(foot, head) for foot in range(-2, 3) for head in range(foot, 3)]
        for places in ((0, 1, 2), (-1, 0, 2), (-5, -3, -2)):
            for chosen in itertools.product(ends, repeat=3):
                gates = [(place,) + pair for place, pair in zip(places, chosen)]
                told = barring(*gates)
                self.assertEqual(told, true_barring(*gates), gates)
                self.assertEqual(told == "", some_throw_passes(gates), gates)

    def test_wild_threes(self):
        dice = Dice(8)
        told = []
        for step in range(1500):
            for gates in (wild_gates(dice, 3), wild_gates(dice, 3, 7), edge_gates(dice, 3)):
                gates = sorted(gates)
                told.append(barring(*gates))
                self.assertEqual(told[-1], true_barring(*gates), gates)
                self.assertEqual(told[-1] == "", some_throw_passes(gates), gates)
        self.assertEqual(sorted(set(told)), ["", "foot", "head"])

    def test_a_fraction_of_a_step_at_all_distances(self):
        dice = Dice(9)
        for step in range(1500):
            p, q, r = sorted(dice.places(3, -1000, 1000))
            start, end = dice.roll(-999, 999), dice.roll(-999, 999)
            line = (start * (r - q) + end * (q - p)) // (r - p)
            for near in (line - 1, line, line + 1, line + 2):
                near = max(-1000, min(1000, near))
                for gates in (((p, -1000, start), (q, near, 1000), (r, -1000, end)),
                              ((p, start, 1000), (q, -1000, near), (r, end, 1000))):
                    self.assertEqual(barring(*gates), true_barring(*gates), gates)

    def test_nothing_is_refused_somewhat_beyond_the_bounds(self):
        self.check((-1002, 0, 0), (0, 1003, 1004), (1005, 0, 0), "foot")


class FirstThreeTest(ShoreCase):
    def check(self, gates, wanted):
        with self.subTest(gates=gates):
            self.assertEqual(self.ask(first_three, gates), wanted)

    def test_fewer_than_three_gates(self):
        self.check([], None)
        self.check([(4, 1, 1)], None)
        self.check([(4, 1, 1), (-4, 1000, 1000)], None)

    def test_three_gates(self):
        self.check([(1, 0, 0), (2, 5, 6), (3, 0, 0)], (1, 2, 3))
        self.check([(3, 0, 0), (1, 0, 0), (2, -6, -5)], (1, 2, 3))
        self.check([(1000, 0, 0), (-1000, 0, 0), (0, 0, 0)], None)

    def test_none_bar(self):
        self.check([(place, -place, 1000) for place in range(-20, 20)], None)
        self.check([(place, 3 * place, 3 * place) for place in range(-20, 20)], None)
        self.check([(place, -1000, 1000) for place in range(961, 1001)], None)

    def test_least_first_place(self):
        # The threes that bar: (0, 3, 5), (1, 2, 3), (2, 3, 5).
        self.check([(0, 0, 8), (1, -7, 3), (2, 2, 6), (3, -4, 0), (5, 1, 4)], (0, 3, 5))
        # Here: (0, 3, 5), (1, 2, 5), (1, 3, 5).
        self.check([(0, -8, 1), (1, -6, -3), (2, -2, 3), (3, 0, 3), (5, -8, -2)], (0, 3, 5))

    def test_least_middle_place(self):
        # The threes that bar: (0, 1, 5), (0, 2, 3), (0, 2, 5).
        self.check([(0, -8, -3), (1, -1, 4), (2, 2, 3), (3, -4, 3), (5, 0, 2)], (0, 1, 5))
        self.check([(0, 0, 2), (1, -8, 1), (2, -6, -2), (3, 1, 5), (5, 6, 8)], (0, 1, 5))

    def test_least_last_place(self):
        # The threes that bar: (0, 1, 2), (0, 1, 3), (0, 1, 5).
        self.check([(0, -5, -2), (1, 2, 4), (2, -9, 2), (3, -1, 6), (5, 0, 6)], (0, 1, 2))
        self.check([(0, 0, 0), (1, 5, 5), (2, 10, 10), (3, 14, 14), (4, -3, -3)], (0, 1, 3))

    def test_held_against_all_threes(self):
        answers = []
        for gates in many_lists(0, 12, 6, 20) + many_lists(13, 40, 1, 21):
            told = self.ask(first_three, gates)
            self.assertEqual(told, first_of_all_threes(gates), gates)
            answers.append(told)
            if told is not None:
                self.check_three(told)
        self.assertGreater(answers.count(None), 100)
        self.assertGreater(len(answers) - answers.count(None), 100)

    def test_three_in_the_midst_of_many(self):
        for spot in range(1, 39):
            gates = [(place, -1000, 1000) for place in range(40)]
            gates[spot - 1] = (spot - 1, 0, 0)
            gates[spot] = (spot, 3, 3)
            gates[spot + 1] = (spot + 1, 5, 5)
            self.check(gates, (spot - 1, spot, spot + 1))

    def test_more_than_forty_gates(self):
        gates = [(place, -5, 5) for place in range(43)]
        self.check(gates, None)
        gates[41] = (41, 6, 6)
        gates[42] = (42, -6, -6)
        self.check(gates, (0, 38, 41))


if __name__ == "__main__":
    unittest.main()
