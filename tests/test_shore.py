import unittest

from tests.shores import ShoreCase, many_lists, some_throw_passes
from throwgate.shore import fewest_runs


class FewestRunsTest(ShoreCase):
    def check(self, gates):
        told = self.ask(fewest_runs, gates)
        self.assertIs(type(told), list)
        left = sorted(gates)
        runs = []
        for run in told:
            self.assertEqual((type(run), len(run)), (tuple, 3), gates)
            self.assertEqual([type(run[0]), type(run[1])], [int, int])
            places = [gate[0] for gate in left]
            # Each run begins at the first gate that no run has taken yet.
            self.assertEqual(run[0], places[0], gates)
            self.assertIn(run[1], places, gates)
            many = places.index(run[1]) + 1
            runs.append(left[:many])
            left = left[many:]
            self.check_throw(run[2], runs[-1])
        self.assertEqual(left, [], gates)
        for run, behind in zip(runs, runs[1:]):
            self.assertFalse(some_throw_passes(run + behind[:1]), gates)
        return [(run[0], run[1]) for run in told]

    def test_no_gates(self):
        told = self.ask(fewest_runs, [])
        self.assertIs(type(told), list)
        self.assertEqual(told, [])

    def test_one_gate(self):
        for gate in ((0, 0, 0), (-1000, 1000, 1000), (1000, -1000, 1000), (7, -4, 3)):
            self.assertEqual(self.check([gate]), [(gate[0], gate[0])])

    def test_two_gates(self):
        self.assertEqual(self.check([(5, 1000, 1000), (4, -1000, -1000)]), [(4, 5)])
        self.assertEqual(self.check([(-1000, 1, 1), (1000, 0, 0)]), [(-1000, 1000)])

    def test_three_gates(self):
        self.assertEqual(self.check([(0, 0, 0), (1, 1, 1), (2, 2, 2)]), [(0, 2)])
        self.assertEqual(self.check([(2, 0, 0), (0, 0, 0), (1, 1, 1)]), [(0, 1), (2, 2)])

    def test_just_barred_and_just_not(self):
        self.assertEqual(self.check([(0, -9, 0), (1, 0, 9), (3, -9, 2), (4, -9, 9)]), [(0, 4)])
        self.assertEqual(self.check([(0, -9, 0), (1, 1, 9), (3, -9, 2), (4, -9, 9)]), [(0, 1), (3, 4)])

    def test_runs_that_end_and_begin_in_the_midst(self):
        gates = [(place, abs(place), abs(place)) for place in range(-6, 7)]
        self.assertEqual(self.check(gates), [(-6, 0), (1, 6)])
        gates = [(0, 0, 1), (1, 0, 1), (2, 5, 6), (3, 0, 1), (4, 0, 1), (5, 0, 1), (6, 9, 9)]
        self.assertEqual(self.check(gates), [(0, 1), (2, 3), (4, 5), (6, 6)])

    def test_runs_of_two(self):
        gates = [(place, place * place, place * place) for place in range(-20, 20)]
        self.assertEqual(self.check(gates), [(place, place + 1) for place in range(-20, 20, 2)])
        self.assertEqual(self.check(gates[:-1])[-1], (18, 18))

    def test_forty_gates_in_one_run(self):
        self.assertEqual(self.check([(place, -1000, 1000) for place in range(961, 1001)]), [(961, 1000)])
        self.assertEqual(self.check([(25 * place, -place, -place) for place in range(-20, 20)]), [(-500, 475)])

    def test_many_lists(self):
        told = [self.check(gates) for gates in many_lists(0, 12, 4, 71) + many_lists(13, 40, 1, 72)]
        self.assertGreater(len([runs for runs in told if len(runs) == 1]), 100)
        self.assertGreater(len([runs for runs in told if len(runs) > 2]), 100)

    def test_the_told_list_is_the_askers_own(self):
        gates = [(0, 0, 0), (1, 1, 1), (2, 0, 0)]
        for asked in (gates, []):
            told = fewest_runs(asked)
            wanted = list(told)
            told.append((9, 9, (0, 1, 0, 1)))
            told.reverse()
            self.assertEqual(fewest_runs(asked), wanted)
        self.assertEqual(gates, [(0, 0, 0), (1, 1, 1), (2, 0, 0)])

    def test_nothing_is_refused_somewhat_beyond_the_bounds(self):
        self.assertEqual(self.check([(place, 1002, 1003) for place in range(970, 1012)]), [(970, 1011)])


if __name__ == "__main__":
    unittest.main()
