import copy
import itertools
import math
import unittest

from tests.shores import Dice, ShoreCase, beach_of, goes_through, many_lists
from throwgate import errors
from throwgate.beach import Beach
from throwgate.lists import flattest_throw, steepest_throw, throw_through
from throwgate.shore import fewest_runs
from throwgate.small import most_gates

GREAT = 999999999
HUGE = 10 ** 30
# Too long for Python to write it out.
ENORMOUS = 10 ** 5000
FULL = [(place, -5, 5) for place in range(-20, 20)]
FEW = [(7, -3, 4), (-2, 0, 0), (1000, -1000, 1000), (-1000, 5, 6)]
LIST_QUESTIONS = (("through", throw_through), ("steepest", steepest_throw), ("flattest", flattest_throw))


class QuestionCase(ShoreCase):
    def check_refused(self, beach, error, method, *handed):
        stood = (beach.gates(), beach.deeds())
        before = copy.deepcopy(handed)
        with self.assertRaises(getattr(errors, error)) as caught:
            getattr(beach, method)(*handed)
        self.assertIs(type(caught.exception), getattr(errors, error))
        self.assertEqual(handed, before)
        self.assertEqual((beach.gates(), beach.deeds()), stood)


class ListsOfPlacesTest(QuestionCase):
    def check(self, beach, method, function, places):
        stood = (beach.gates(), beach.deeds())
        gates = {gate[0]: gate for gate in beach.gates()}
        wanted = function([gates[place] for place in places])
        told = self.ask(getattr(beach, method), places)
        self.assertEqual(told, wanted)
        self.assertEqual((beach.gates(), beach.deeds()), stood)
        if told[0] == "throw":
            passed = beach.passed(told[1])
            self.assertEqual([place for place in sorted(places) if place not in passed], [])

    def test_ordinary_lists(self):
        beach = beach_of(Beach(), [(0, 0, 9), (1, 1, 3), (3, 2, 4), (8, 0, 0)])
        self.assertEqual(beach.steepest([3, 0, 1]), ("throw", (0, 1, 4, 3), 0, 3))
        self.assertEqual(beach.flattest([0, 1, 3]), ("throw", (7, 2, -1, 2), 1, 3))
        self.assertEqual(beach.through([0])[0], "throw")
        beach = beach_of(Beach(), [(0, 0, 0), (1, 1, 1), (2, 0, 0), (5, -9, 9)])
        for method, function in LIST_QUESTIONS:
            self.assertEqual(getattr(beach, method)([5, 2, 0, 1]), ("bar", (0, 1, 2)))

    def test_held_against_the_functions(self):
        dice = Dice(11)
        for gates in many_lists(1, 14, 1, 91) + many_lists(39, 40, 2, 92):
            beach = beach_of(Beach(), gates)
            places = [gate[0] for gate in dice.mixed(gates)]
            lists = [places, places[:1], places[:2], places[:dice.roll(1, len(places))]]
            for chosen, (method, function) in itertools.product(lists, LIST_QUESTIONS):
                if len(chosen) > 1 or method == "through":
                    self.check(beach, method, function, chosen)

    def test_only_the_listed_gates_count(self):
        beach = beach_of(Beach(), [(0, 0, 0), (1, 500, 500), (2, 2, 2), (3, -500, -500), (4, 4, 4)])
        self.assertEqual(beach.through([0, 2, 4]), ("throw", (0, 1, 1, 1)))
        self.assertEqual(beach.steepest([4, 2, 0])[:2], ("throw", (0, 1, 1, 1)))
        self.assertEqual(beach.flattest([4, 2, 0])[:2], ("throw", (0, 1, 1, 1)))
        self.assertEqual(beach.through([0, 1, 2, 3, 4])[0], "bar")

    def test_the_gates_as_they_stand_now(self):
        beach = beach_of(Beach(), [(0, 0, 0), (1, 0, 0), (2, 0, 0)])
        self.assertEqual(beach.through([0, 1, 2]), ("throw", (0, 1, 0, 1)))
        beach.lift(1, 1, 1)
        self.assertEqual(beach.through([0, 1, 2]), ("bar", (0, 1, 2)))
        beach.take(1)
        self.check_refused(beach, "NoGate", "through", [0, 1, 2])
        beach.back(2)
        self.assertEqual(beach.through([0, 1, 2]), ("throw", (0, 1, 0, 1)))

    def test_bad_list(self):
        for beach in (Beach(), beach_of(Beach(), FEW), beach_of(Beach(), FULL)):
            for method, function in LIST_QUESTIONS:
                self.check_refused(beach, "BadList", method, [])
                self.check_refused(beach, "BadList", method, [7, 7])
                self.check_refused(beach, "BadList", method, [7, -2, 7])
                self.check_refused(beach, "BadList", method, list(range(-20, 20)) + [-20])
                self.check_refused(beach, "BadList", method, [7] * 41)
                self.check_refused(beach, "BadList", method, list(range(-20, 21)))
                self.check_refused(beach, "BadList", method, list(range(1000)))

    def test_bad_list_ahead_of_no_gate(self):
        for beach in (Beach(), beach_of(Beach(), FEW), beach_of(Beach(), FULL)):
            for method, function in LIST_QUESTIONS:
                self.check_refused(beach, "BadList", method, [500, 500])
                self.check_refused(beach, "BadList", method, [7, 500, 7])
                self.check_refused(beach, "BadList", method, [500, 7, 7])
                self.check_refused(beach, "BadList", method, [HUGE, HUGE])
                self.check_refused(beach, "BadList", method, [-HUGE, 7, HUGE, -HUGE])
                self.check_refused(beach, "BadList", method, list(range(500, 541)))

    def test_no_gate(self):
        for method, function in LIST_QUESTIONS:
            self.check_refused(Beach(), "NoGate", method, [0, 1])
            beach = beach_of(Beach(), FEW)
            for place in (0, 999, -999, 1001, -1001, HUGE, -HUGE, ENORMOUS, -ENORMOUS):
                self.check_refused(beach, "NoGate", method, [7, place])
                self.check_refused(beach, "NoGate", method, [place, 7])
                self.check_refused(beach, "NoGate", method, [7, -2, place, 1000])
            self.check_refused(beach, "NoGate", method, list(range(500, 540)))

    def test_no_gate_ahead_of_too_few(self):
        for method, function in LIST_QUESTIONS:
            for beach in (Beach(), beach_of(Beach(), FEW)):
                for place in (0, 1001, HUGE, -ENORMOUS):
                    self.check_refused(beach, "NoGate", method, [place])

    def test_too_few(self):
        beach = beach_of(Beach(), FEW)
        for place in (7, -2, 1000, -1000):
            self.check_refused(beach, "TooFew", "steepest", [place])
            self.check_refused(beach, "TooFew", "flattest", [place])
            self.check_throw(beach.through([place])[1], [gate for gate in FEW if gate[0] == place])

    def test_forty_places(self):
        beach = beach_of(Beach(), FULL)
        places = [gate[0] for gate in FULL]
        self.assertEqual(beach.through(places)[0], "throw")
        self.assertEqual(beach.steepest(places)[:2], ("throw", (-5 * 39 + 200, 39, 10, 39)))
        self.assertEqual(beach.flattest(places)[:2], ("throw", (5 * 39 - 200, 39, -10, 39)))


class WholeBeachTest(QuestionCase):
    def test_held_against_the_functions(self):
        for gates in many_lists(0, 15, 1, 93) + many_lists(39, 40, 2, 94):
            beach = beach_of(Beach(), gates)
            self.assertEqual(beach.runs(), fewest_runs(gates))
            self.assertEqual(beach.runs(), fewest_runs(gates))
            for run in beach.runs():
                self.check_throw(run[2], [gate for gate in gates if run[0] <= gate[0] <= run[1]])
            if 1 <= len(gates) <= 12:
                self.assertEqual(beach.most(), most_gates(gates))
                self.assertEqual(beach.most(), most_gates(gates))
            else:
                self.check_refused(beach, "WrongSize", "most")
            self.assertEqual((beach.gates(), beach.deeds()), (sorted(gates), len(gates)))

    def test_runs_of_no_gate(self):
        self.assertEqual(Beach().runs(), [])
        self.assertIs(type(Beach().runs()), list)

    def test_wrong_size(self):
        beach = Beach()
        self.check_refused(beach, "WrongSize", "most")
        for place in range(12):
            beach.put(place, 0, 0)
            self.assertEqual(beach.most()[0], list(range(place + 1)))
        beach.put(12, 0, 0)
        self.check_refused(beach, "WrongSize", "most")
        beach.take(5)
        self.assertEqual(len(beach.most()[0]), 12)
        beach.back(2)
        self.assertEqual(beach.most()[0], list(range(12)))
        beach.back(12)
        self.check_refused(beach, "WrongSize", "most")
        self.check_refused(beach_of(Beach(), FULL), "WrongSize", "most")

    def test_told_lists_are_the_askers_own(self):
        beach = beach_of(Beach(), [(0, 0, 0), (1, 1, 1), (2, 0, 0)])
        wanted = copy.deepcopy((beach.runs(), beach.most(), beach.passed((0, 1, 0, 1)), beach.gates()))
        for told in (beach.runs(), beach.most()[0], beach.passed((0, 1, 0, 1)), beach.gates()):
            told.append("more")
            told.reverse()
            self.assertEqual((beach.runs(), beach.most(), beach.passed((0, 1, 0, 1)), beach.gates()), wanted)
            told.clear()
            self.assertEqual((beach.runs(), beach.most(), beach.passed((0, 1, 0, 1)), beach.gates()), wanted)


class PassedTest(QuestionCase):
    def check(self, beach, throw, wanted):
        told = beach.passed(throw)
        self.assertIs(type(told), list)
        self.assertEqual(told, wanted, throw)
        self.assertEqual([type(place) for place in told], [int] * len(told))

    def test_ordinary_throws(self):
        beach = beach_of(Beach(), [(4, 0, 3), (2, 0, 2), (-5, 0, 0), (1, 2, 9)])
        self.check(beach, (5, 3, 1, 3), [-5, 1, 4])
        self.check(beach, (0, 1, 0, 1), [-5, 2, 4])
        self.check(beach, (500, 1, 0, 1), [])
        self.check(Beach(), (5, 3, 1, 3), [])

    def test_both_ends_let_it_by(self):
        beach = beach_of(Beach(), [(0, 1, 3), (2, 1, 3), (-1, 3, 3), (-2, 2, 2)])
        self.check(beach, (1, 1, 1, 1), [0, 2])
        self.check(beach, (3, 1, -1, 1), [0, 2])
        self.check(beach, (GREAT, GREAT - 1, 0, 1), [0, 2])
        self.check(beach, (GREAT - 1, GREAT, 0, 1), [])

    def test_not_in_lowest_terms(self):
        beach = beach_of(Beach(), [(4, 0, 3), (2, 0, 2), (-5, 0, 0), (1, 2, 9)])
        self.check(beach, (10, 6, 4, 12), [-5, 1, 4])
        self.check(beach, (0, GREAT, 0, 8), [-5, 2, 4])
        self.check(beach, (5 * 10 ** 7, 3 * 10 ** 7, 10 ** 8, 3 * 10 ** 8), [-5, 1, 4])

    def test_bad_throw(self):
        for beach in (Beach(), beach_of(Beach(), FEW), beach_of(Beach(), FULL, 300)):
            for bottom in (0, -1, -2, -GREAT, -HUGE, -ENORMOUS):
                self.check_refused(beach, "BadThrow", "passed", (0, bottom, 0, 1))
                self.check_refused(beach, "BadThrow", "passed", (0, 1, 0, bottom))
                self.check_refused(beach, "BadThrow", "passed", (0, bottom, 0, bottom))
            for far in (GREAT + 1, HUGE, ENORMOUS):
                for spot, number in itertools.product(range(4), (far, -far)):
                    throw = [0, 1, 0, 1]
                    throw[spot] = number
                    self.check_refused(beach, "BadThrow", "passed", tuple(throw))

    def test_numbers_at_the_bounds(self):
        beach = beach_of(Beach(), FEW + [(0, -1, 1)])
        self.check(beach, (GREAT, GREAT, 0, 1), [0, 7, 1000])
        self.check(beach, (-GREAT, GREAT, 0, 1), [0, 7, 1000])
        self.check(beach, (0, 1, GREAT, GREAT), [0, 1000])
        self.check(beach, (0, 1, -GREAT, GREAT), [0, 1000])
        self.check(beach, (GREAT, 1, GREAT, 1), [])
        self.check(beach, (-GREAT, 1, -GREAT, 1), [])
        self.check(beach, (-1, GREAT, 0, GREAT), [0, 7, 1000])

    def test_held_against_true_heights(self):
        dice = Dice(12)
        for gates in many_lists(1, 12, 1, 95) + many_lists(40, 40, 1, 96):
            beach = beach_of(Beach(), gates)
            for step in range(8):
                reach = 10 ** dice.roll(1, 9) - 1
                slow = dice.roll(1, reach)
                throw = (dice.roll(-reach, reach), dice.roll(1, reach), dice.roll(-slow, slow), dice.roll(1, reach))
                wanted = [gate[0] for gate in sorted(gates) if goes_through(throw, [gate])]
                self.check(beach, throw, wanted)

    def test_told_throws_can_be_asked_about_again(self):
        dice = Dice(13)
        for gates in many_lists(2, 12, 2, 97) + many_lists(40, 40, 2, 98):
            beach = beach_of(Beach(), gates)
            places = [gate[0] for gate in gates]
            few = dice.mixed(places)[:2]
            asked = [(beach.through(places[:1]), places[:1])]
            asked += [(getattr(beach, method)(few), few) for method, function in LIST_QUESTIONS]
            asked += [(getattr(beach, method)(places), places) for method, function in LIST_QUESTIONS]
            throws = [(told[1], chosen) for told, chosen in asked if told[0] == "throw"]
            throws += [(run[2], [place for place in places if run[0] <= place <= run[1]]) for run in beach.runs()]
            for throw, chosen in throws:
                self.assertLessEqual(set(chosen), set(beach.passed(throw)))
                self.assertEqual((math.gcd(*throw[:2]), math.gcd(*throw[2:])), (1, 1))
            if len(gates) <= 12:
                told = beach.most()
                self.assertEqual(beach.passed(told[1]), told[0])


class SameGatesTest(QuestionCase):
    """The same gates, led to by other deeds, on other beaches."""

    def roundabout(self, dice, gates):
        beach = Beach()
        if dice.roll(0, 1) == 1:
            beach_of(beach, [(-999, 0, 0), (999, -4, 4)])
            beach.runs()
            beach.back(2)
        for place, foot, head in dice.mixed(gates):
            way = dice.roll(1, 4)
            if way == 1:
                beach.put(place, foot, head)
            elif way == 2:
                beach.put(place, 0, 0)
                beach.lift(place, min(foot, 0), max(head, 0))
                beach.sink(place, min(foot, 0) - foot, max(head, 0) - head)
            elif way == 3:
                beach.put(place, 1, 1)
                beach.take(place)
                beach.put(place, foot, head)
            else:
                beach.put(place, foot, head)
                beach.take(place)
                beach.back()
        return beach

    def all_told(self, beach, places):
        told = [beach.gates(), beach.runs(), beach.passed((1, 2, -1, 3))]
        told += [getattr(beach, method)(places) for method, function in LIST_QUESTIONS]
        told += [beach.through([place]) for place in sorted(places)]
        if len(beach.gates()) <= 12:
            told.append(beach.most())
        return told

    def test_other_deeds(self):
        dice = Dice(14)
        for gates in many_lists(2, 12, 1, 99) + many_lists(40, 40, 1, 100):
            places = [gate[0] for gate in gates]
            wanted = self.all_told(beach_of(Beach(), gates), places)
            for step in range(3):
                beach = self.roundabout(dice, gates)
                self.assertEqual(self.all_told(beach, dice.mixed(places)), wanted)
                self.assertEqual(self.all_told(beach, dice.mixed(places)), wanted)


if __name__ == "__main__":
    unittest.main()
