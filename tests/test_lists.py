import unittest
from fractions import Fraction

from tests.shores import Dice, ShoreCase, corner_rises, lone_line_gates, many_lists, some_throw_passes, true_height
from throwgate.lists import flattest_throw, steepest_throw, throw_through


def one_throw_lists():
    dice = Dice(31)
    lists = [lone_line_gates(dice, many) for many in range(3, 41) for step in range(2)]
    lists.append([(-1000, -1000, -1000), (1000, 999, 999)])
    lists.append([(-1000, 1000, 1000), (999, -1000, -1000)])
    lists.append([(place, -7 * place, -7 * place) for place in range(-20, 20)])
    # A line of rise 1/3 that only every third gate holds.
    lists.append([(3 * step, step, step) for step in range(3)] + [(4, 1, 2), (5, 1, 2), (-2, -1, 0)])
    return lists


class ThrowThroughTest(ShoreCase):
    def check(self, gates):
        told = self.ask(throw_through, gates)
        if not some_throw_passes(gates):
            self.check_bar(told, gates)
            return "bar"
        self.assertIs(type(told), tuple)
        self.assertEqual((len(told), told[0]), (2, "throw"), gates)
        self.check_throw(told[1], gates)
        return "throw"

    def test_one_gate(self):
        for gate in ((0, 0, 0), (7, -3, 4), (-1000, -1000, -1000), (1000, 1000, 1000), (1, -1000, 1000), (3, 5, 5)):
            self.assertEqual(self.check([gate]), "throw")

    def test_two_gates(self):
        self.assertEqual(self.check([(0, 0, 0), (1, 1000, 1000)]), "throw")
        self.assertEqual(self.check([(1000, 1000, 1000), (999, -1000, -1000)]), "throw")
        self.assertEqual(self.check([(-1000, 1, 1), (1000, 0, 0)]), "throw")
        self.assertEqual(self.check([(-3, -7, 5), (8, 2, 6)]), "throw")

    def test_three_gates(self):
        self.assertEqual(self.check([(0, 0, 1), (5, 4, 5), (10, 8, 9)]), "throw")
        self.assertEqual(self.ask(throw_through, [(0, 0, 1), (5, 8, 9), (10, 0, 1)]), ("bar", (0, 5, 10)))
        self.assertEqual(self.ask(throw_through, [(10, 8, 9), (0, 8, 9), (5, 0, 1)]), ("bar", (0, 5, 10)))

    def test_just_not_barred(self):
        self.assertEqual(self.check([(0, -9, 0), (1, 0, 9), (3, -9, 2)]), "throw")
        self.assertEqual(self.check([(0, -9, 0), (2, 1, 9), (4, -9, 2)]), "throw")
        self.assertEqual(self.ask(throw_through, [(0, -9, 0), (1, 1, 9), (3, -9, 2)]), ("bar", (0, 1, 3)))

    def test_the_first_of_several_threes(self):
        gates = [(0, 0, 8), (1, -7, 3), (2, 2, 6), (3, -4, 0), (5, 1, 4)]
        self.assertEqual(self.ask(throw_through, gates), ("bar", (0, 3, 5)))

    def test_just_one_throw(self):
        for gates in one_throw_lists():
            self.assertEqual(len(set(corner_rises(gates))), 1)
            self.assertEqual(self.check(gates), "throw")

    def test_the_one_throw(self):
        gates = [(3, 1, 1), (4, 1, 2), (-3, -1, -1), (5, 1, 2)]
        self.assertEqual(self.ask(throw_through, gates), ("throw", (0, 1, 1, 3)))

    def test_many_lists(self):
        told = [self.check(gates) for gates in many_lists(1, 12, 4, 41) + many_lists(13, 40, 1, 42)]
        self.assertGreater(told.count("throw"), 100)
        self.assertGreater(told.count("bar"), 100)

    def test_nothing_is_refused_somewhat_beyond_the_bounds(self):
        self.check_throw(self.ask(throw_through, [])[1], [])
        self.assertEqual(self.check([(place, place, place + 1) for place in range(970, 1012)]), "throw")
        self.assertEqual(self.check([(-1004, 1002, 1002), (0, 0, 0), (1003, 1005, 1005)]), "bar")


class EndmostCase(ShoreCase):
    """Checks for the steepest and the flattest; `near` and `far` are the ends that the throw goes by."""

    def check_endmost(self, function, gates, near, far, endmost):
        told = self.ask(function, gates)
        rises = corner_rises(gates)
        if not rises:
            self.check_bar(told, gates)
            return "bar"
        self.assertIs(type(told), tuple)
        self.assertEqual((len(told), told[0]), (4, "throw"), gates)
        throw, near_place, far_place = told[1:]
        self.check_throw(throw, gates)
        ends = {gate[0]: gate for gate in gates}
        self.assertEqual([type(near_place), type(far_place)], [int, int])
        self.assertLess(near_place, far_place, gates)
        self.assertEqual(true_height(throw, near_place), ends[near_place][near], gates)
        self.assertEqual(true_height(throw, far_place), ends[far_place][far], gates)
        self.assertEqual(Fraction(throw[2], throw[3]), endmost(rises), gates)
        return "throw"

    def check_steepest(self, gates):
        return self.check_endmost(steepest_throw, gates, 1, 2, max)

    def check_flattest(self, gates):
        return self.check_endmost(flattest_throw, gates, 2, 1, min)


class SteepestTest(EndmostCase):
    def test_two_gates(self):
        self.assertEqual(self.ask(steepest_throw, [(0, 1, 3), (2, 4, 9)]), ("throw", (1, 1, 4, 1), 0, 2))
        self.assertEqual(self.ask(steepest_throw, [(4, -5, -3), (1, 2, 6)]), ("throw", (11, 3, -5, 3), 1, 4))
        self.assertEqual(self.ask(steepest_throw, [(-1000, 0, 7), (1000, -4, 1)]),
                         ("throw", (1, 2, 1, 2000), -1000, 1000))
        self.assertEqual(self.ask(steepest_throw, [(999, -1000, 1000), (1000, -1000, 1000)]),
                         ("throw", (-1999000, 1, 2000, 1), 999, 1000))

    def test_more_gates(self):
        self.assertEqual(self.ask(steepest_throw, [(0, 0, 9), (1, 1, 3), (3, 2, 4)]), ("throw", (0, 1, 4, 3), 0, 3))
        self.assertEqual(self.ask(steepest_throw, [(3, 2, 4), (9, -99, 99), (0, -9, 9), (1, 1, 3)]),
                         ("throw", (-1, 2, 3, 2), 1, 3))

    def test_several_pairs(self):
        self.assertEqual(self.check_steepest([(0, 0, 5), (1, 1, 1), (2, -5, 2)]), "throw")
        self.assertEqual(self.check_steepest([(2 * place, place, place) for place in range(-20, 20)]), "throw")

    def test_just_one_throw(self):
        for gates in one_throw_lists():
            self.assertEqual(self.check_steepest(gates), "throw")
            self.assertEqual(steepest_throw(gates)[1], throw_through(gates)[1])

    def test_first_three_where_none_passes(self):
        gates = [(0, 0, 8), (1, -7, 3), (2, 2, 6), (3, -4, 0), (5, 1, 4)]
        self.assertEqual(self.ask(steepest_throw, gates), ("bar", (0, 3, 5)))
        self.assertEqual(self.ask(steepest_throw, [(0, 0, 0), (2, 0, 0), (1, 1, 1)]), ("bar", (0, 1, 2)))

    def test_many_lists(self):
        told = [self.check_steepest(gates) for gates in many_lists(2, 12, 4, 51) + many_lists(13, 40, 1, 52)]
        self.assertGreater(told.count("throw"), 100)
        self.assertGreater(told.count("bar"), 100)

    def test_nothing_is_refused_somewhat_beyond_the_bounds(self):
        self.assertEqual(self.check_steepest([(place, place, place + 1) for place in range(970, 1012)]), "throw")


class FlattestTest(EndmostCase):
    def test_two_gates(self):
        self.assertEqual(self.ask(flattest_throw, [(0, 1, 3), (2, 4, 9)]), ("throw", (3, 1, 1, 2), 0, 2))
        self.assertEqual(self.ask(flattest_throw, [(4, -5, -3), (1, 2, 6)]), ("throw", (29, 3, -11, 3), 1, 4))
        self.assertEqual(self.ask(flattest_throw, [(-1000, 0, 7), (1000, -4, 1)]),
                         ("throw", (3, 2, -11, 2000), -1000, 1000))
        self.assertEqual(self.ask(flattest_throw, [(999, -1000, 1000), (1000, -1000, 1000)]),
                         ("throw", (1999000, 1, -2000, 1), 999, 1000))

    def test_more_gates(self):
        self.assertEqual(self.ask(flattest_throw, [(0, -9, 0), (1, -3, -1), (3, -4, -2)]),
                         ("throw", (0, 1, -4, 3), 0, 3))
        self.assertEqual(self.ask(flattest_throw, [(3, -4, -2), (9, -99, 99), (0, -9, 9), (1, -3, -1)]),
                         ("throw", (1, 2, -3, 2), 1, 3))

    def test_several_pairs(self):
        self.assertEqual(self.check_flattest([(0, -5, 0), (1, -1, -1), (2, -2, 5)]), "throw")
        self.assertEqual(self.check_flattest([(2 * place, place, place) for place in range(-20, 20)]), "throw")

    def test_just_one_throw(self):
        for gates in one_throw_lists():
            self.assertEqual(self.check_flattest(gates), "throw")
            self.assertEqual(flattest_throw(gates)[1], throw_through(gates)[1])

    def test_first_three_where_none_passes(self):
        gates = [(0, 0, 8), (1, -7, 3), (2, 2, 6), (3, -4, 0), (5, 1, 4)]
        self.assertEqual(self.ask(flattest_throw, gates), ("bar", (0, 3, 5)))
        self.assertEqual(self.ask(flattest_throw, [(0, 0, 0), (2, 0, 0), (1, 1, 1)]), ("bar", (0, 1, 2)))

    def test_many_lists(self):
        told = [self.check_flattest(gates) for gates in many_lists(2, 12, 4, 61) + many_lists(13, 40, 1, 62)]
        self.assertGreater(told.count("throw"), 100)
        self.assertGreater(told.count("bar"), 100)

    def test_nothing_is_refused_somewhat_beyond_the_bounds(self):
        self.assertEqual(self.check_flattest([(place, place, place + 1) for place in range(970, 1012)]), "throw")


if __name__ == "__main__":
    unittest.main()
