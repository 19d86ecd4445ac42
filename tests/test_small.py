import itertools
import unittest

from tests.shores import Dice, ShoreCase, bar_together, edge_gates, goes_through, many_lists, wild_gates
from throwgate.small import most_gates


def sets_without_a_bar(gates, many):
    """Whether some `many` of the gates have no three among them that bar."""
    ordered = sorted(gates)
    bars = {spots for spots in itertools.combinations(range(len(ordered)), 3)
            if bar_together(*[ordered[spot] for spot in spots])}
    return any(bars.isdisjoint(itertools.combinations(chosen, 3))
               for chosen in itertools.combinations(range(len(ordered)), many))


class MostGatesTest(ShoreCase):
    def check(self, gates):
        told = self.ask(most_gates, gates)
        self.assertEqual((type(told), len(told)), (tuple, 2), gates)
        places, throw = told
        self.assertIs(type(places), list)
        self.assertEqual([type(place) for place in places], [int] * len(places))
        passed = [gate for gate in sorted(gates) if goes_through(throw, [gate])]
        self.assertEqual(places, [gate[0] for gate in passed], gates)
        self.check_throw(throw, passed)
        self.assertFalse(sets_without_a_bar(gates, len(places) + 1), gates)
        self.check_own_list(gates)
        return len(places)

    def check_own_list(self, gates):
        wanted = most_gates(gates)
        told = most_gates(gates)
        told[0].append(77)
        told[0].reverse()
        self.assertEqual(most_gates(gates), wanted)

    def test_one_gate(self):
        for gate in ((0, 0, 0), (7, -4, 3), (-1000, -1000, -1000), (1000, 1000, 1000), (1000, -1000, 1000), (-3, 5, 5)):
            self.assertEqual(self.check([gate]), 1)
            self.assertEqual(most_gates([gate])[0], [gate[0]])

    def test_two_gates(self):
        self.assertEqual(self.check([(5, 1000, 1000), (4, -1000, -1000)]), 2)
        self.assertEqual(self.check([(-1000, 1, 1), (1000, 0, 0)]), 2)
        self.assertEqual(self.check([(999, -1000, 1000), (1000, -1000, 1000)]), 2)

    def test_three_gates(self):
        self.assertEqual(self.check([(0, 0, 0), (1, 1, 1), (2, 2, 2)]), 3)
        self.assertEqual(self.check([(2, 0, 0), (0, 0, 0), (1, 1, 1)]), 2)
        self.assertEqual(self.check([(0, -9, 0), (1, 0, 9), (3, -9, 2)]), 3)
        self.assertEqual(self.check([(0, -9, 0), (1, 1, 9), (3, -9, 2)]), 2)

    def test_one_set_is_the_most(self):
        gates = [(place, 3 * place, 3 * place) for place in (-9, -4, 0, 1, 6)]
        gates += [(-7, 500, 501), (2, -700, -700), (5, 900, 1000), (9, -31, -30)]
        self.assertEqual(self.ask(most_gates, gates), ([-9, -4, 0, 1, 6], (0, 1, 3, 1)))

    def test_a_throw_between_the_heights(self):
        gates = [(0, 0, 0), (3, 1, 1), (6, 2, 2), (1, 1, 1), (2, 0, 0), (4, 4, 4), (-3, -1, -1)]
        self.assertEqual(self.ask(most_gates, gates), ([-3, 0, 3, 6], (0, 1, 1, 3)))

    def test_the_most_need_not_be_neighbours(self):
        gates = [(place, 50 * (place % 2), 900 * (place % 2)) for place in range(9)]
        self.assertEqual(self.ask(most_gates, gates)[0], [0, 2, 4, 6, 8])

    def test_all_of_twelve(self):
        self.assertEqual(self.check([(place, -1000, 1000) for place in range(989, 1001)]), 12)
        self.assertEqual(self.check([(90 * place, -7 * place, -7 * place) for place in range(-6, 6)]), 12)

    def test_two_of_twelve(self):
        self.assertEqual(self.check([(place, place * place, place * place) for place in range(-6, 6)]), 2)

    def test_every_small_list(self):
        ends = [(foot, head) for foot in range(-1, 2) for head in range(foot, 2)]
        for places in ((0, 1, 2), (-2, 1, 2), (0, 1, 2, 3)):
            for chosen in itertools.product(ends, repeat=len(places)):
                self.check([(place,) + pair for place, pair in zip(places, chosen)])

    def test_many_lists(self):
        lists = many_lists(1, 12, 3, 81)
        dice = Dice(82)
        for step in range(30):
            lists.append(wild_gates(dice, dice.roll(5, 12), 9))
            lists.append(edge_gates(dice, dice.roll(3, 11)))
        told = [self.check(gates) for gates in lists]
        for many in range(1, 13):
            self.assertIn(many, told)

    def test_nothing_is_refused_somewhat_beyond_the_bounds(self):
        self.assertEqual(self.check([(place, place, place + 1) for place in range(990, 1004)]), 14)
        places, throw = self.ask(most_gates, [])
        self.assertEqual(places, [])
        self.check_throw(throw, [])


if __name__ == "__main__":
    unittest.main()
