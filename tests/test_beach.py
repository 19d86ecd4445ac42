import itertools
import unittest

from tests.shores import Dice, PlainBeach, beach_of, do_on
from throwgate import errors
from throwgate.beach import Beach

HUGE = 10 ** 30
# Too long for Python to write it out.
ENORMOUS = 10 ** 5000
FULL = [(place, -5, 5) for place in range(-20, 20)]
FEW = [(7, -3, 4), (-2, 0, 0), (1000, -1000, 1000)]


class BeachCase(unittest.TestCase):
    def check_stands(self, beach, gates, deeds):
        told = beach.gates()
        self.assertEqual(told, sorted(gates))
        self.assertIs(type(told), list)
        for gate in told:
            self.assertEqual([type(gate)] + [type(number) for number in gate], [tuple, int, int, int])
        self.assertEqual(beach.deeds(), deeds)
        self.assertIs(type(beach.deeds()), int)

    def check_gate(self, told, wanted):
        self.assertEqual(told, wanted)
        self.assertEqual([type(told)] + [type(number) for number in told], [tuple, int, int, int])

    def check_refused(self, beach, error, method, *handed):
        gates, deeds = beach.gates(), beach.deeds()
        with self.assertRaises(getattr(errors, error)) as caught:
            getattr(beach, method)(*handed)
        self.assertIs(type(caught.exception), getattr(errors, error))
        self.check_stands(beach, gates, deeds)


class DeedsTest(BeachCase):
    def test_a_new_beach_is_empty(self):
        self.check_stands(Beach(), [], 0)

    def test_put(self):
        beach = Beach()
        self.check_gate(beach.put(7, -3, 4), (7, -3, 4))
        self.check_stands(beach, [(7, -3, 4)], 1)
        self.check_gate(beach.put(-2, 0, 0), (-2, 0, 0))
        self.check_gate(beach.put(0, -9, -9), (0, -9, -9))
        self.check_stands(beach, [(-2, 0, 0), (0, -9, -9), (7, -3, 4)], 3)

    def test_put_at_the_bounds(self):
        beach = Beach()
        self.check_gate(beach.put(-1000, -1000, -1000), (-1000, -1000, -1000))
        self.check_gate(beach.put(1000, 1000, 1000), (1000, 1000, 1000))
        self.check_gate(beach.put(0, -1000, 1000), (0, -1000, 1000))
        self.check_stands(beach, [(-1000, -1000, -1000), (0, -1000, 1000), (1000, 1000, 1000)], 3)

    def test_take(self):
        beach = beach_of(Beach(), FEW)
        self.check_gate(beach.take(7), (7, -3, 4))
        self.check_stands(beach, FEW[1:], 4)
        self.check_gate(beach.take(1000), (1000, -1000, 1000))
        self.check_gate(beach.take(-2), (-2, 0, 0))
        self.check_stands(beach, [], 6)
        self.check_gate(beach.put(7, 1, 1), (7, 1, 1))
        self.check_stands(beach, [(7, 1, 1)], 7)

    def test_take_tells_the_gate_as_it_stood(self):
        beach = beach_of(Beach(), FEW)
        beach.lift(7, 2, 5)
        beach.sink(-2, 3, 1)
        self.check_gate(beach.take(7), (7, -1, 9))
        self.check_gate(beach.take(-2), (-2, -3, -1))

    def test_lift(self):
        beach = beach_of(Beach(), FEW)
        self.check_gate(beach.lift(7, 2, 5), (7, -1, 9))
        self.check_gate(beach.lift(7, -10, 0), (7, -11, 9))
        self.check_gate(beach.lift(7, 0, -20), (7, -11, -11))
        self.check_gate(beach.lift(7, 0, 0), (7, -11, -11))
        self.check_gate(beach.lift(7, 1011, 1011), (7, 1000, 1000))
        self.check_gate(beach.lift(7, -2000, -2000), (7, -1000, -1000))
        self.check_stands(beach, [(7, -1000, -1000)] + FEW[1:], 9)

    def test_sink(self):
        beach = beach_of(Beach(), FEW)
        self.check_gate(beach.sink(7, 5, 2), (7, -8, 2))
        self.check_gate(beach.sink(7, 0, -10), (7, -8, 12))
        self.check_gate(beach.sink(7, -20, 0), (7, 12, 12))
        self.check_gate(beach.sink(7, 0, 0), (7, 12, 12))
        self.check_gate(beach.sink(7, 1012, 1012), (7, -1000, -1000))
        self.check_gate(beach.sink(7, -2000, -2000), (7, 1000, 1000))
        self.check_stands(beach, [(7, 1000, 1000)] + FEW[1:], 9)

    def test_gates_is_the_askers_own(self):
        beach = beach_of(Beach(), FEW)
        told = beach.gates()
        told.clear()
        self.check_stands(beach, FEW, 3)
        beach.gates().reverse()
        beach.gates().append((0, 0, 0))
        self.check_stands(beach, FEW, 3)
        kept = beach.gates()
        beach.take(7)
        beach.put(5, 5, 5)
        self.assertEqual(kept, sorted(FEW))
        beach.back(5)
        self.assertEqual((kept, beach.gates()), (sorted(FEW), []))

    def test_gates_of_an_old_time_change_nothing_after_taking_back(self):
        beach = Beach()
        beach.gates().append((0, 0, 0))
        beach.put(7, 1, 2)
        beach.gates().clear()
        beach.put(8, 1, 2)
        beach.back()
        beach.gates().clear()
        self.check_stands(beach, [(7, 1, 2)], 1)
        beach.back()
        self.check_stands(beach, [], 0)

    def test_two_beaches_share_nothing(self):
        one, two = Beach(), Beach()
        one.put(1, 2, 3)
        self.check_stands(two, [], 0)
        two.put(1, 5, 6)
        two.put(2, 0, 0)
        one.lift(1, -1, 0)
        self.check_stands(one, [(1, 1, 3)], 2)
        self.check_stands(two, [(1, 5, 6), (2, 0, 0)], 2)
        one.back(2)
        self.check_stands(one, [], 0)
        self.check_stands(two, [(1, 5, 6), (2, 0, 0)], 2)
        self.check_stands(Beach(), [], 0)


class RefusalsTest(BeachCase):
    def test_no_gate(self):
        for beach in (Beach(), beach_of(Beach(), FEW)):
            for place in (0, 6, 8, -7, 999, -1000, 1001, -1001, HUGE, -HUGE, ENORMOUS):
                self.check_refused(beach, "NoGate", "take", place)
                self.check_refused(beach, "NoGate", "lift", place, 0, 0)
                self.check_refused(beach, "NoGate", "sink", place, 0, 0)

    def test_taken(self):
        beach = beach_of(Beach(), FEW)
        for place in (7, -2, 1000):
            self.check_refused(beach, "Taken", "put", place, 0, 0)
        beach.take(7)
        self.check_gate(beach.put(7, 0, 0), (7, 0, 0))

    def test_upside_down(self):
        beach = beach_of(Beach(), FEW)
        self.check_refused(beach, "UpsideDown", "put", 0, 1, 0)
        self.check_refused(beach, "UpsideDown", "put", 0, 1000, -1000)
        self.check_refused(beach, "UpsideDown", "lift", -2, 1, 0)
        self.check_refused(beach, "UpsideDown", "lift", -2, 0, -1)
        self.check_refused(beach, "UpsideDown", "lift", 7, 8, 0)
        self.check_refused(beach, "UpsideDown", "sink", -2, 0, 1)
        self.check_refused(beach, "UpsideDown", "sink", -2, -1, 0)
        self.check_refused(beach, "UpsideDown", "sink", 7, -8, 0)
        self.check_gate(beach.lift(7, 7, 0), (7, 4, 4))

    def test_out_of_bounds(self):
        beach = beach_of(Beach(), FEW)
        for far in (1001, HUGE, ENORMOUS):
            self.check_refused(beach, "OutOfBounds", "put", far, 0, 0)
            self.check_refused(beach, "OutOfBounds", "put", -far, 0, 0)
            self.check_refused(beach, "OutOfBounds", "put", 0, 0, far)
            self.check_refused(beach, "OutOfBounds", "put", 0, -far, 0)
            self.check_refused(beach, "OutOfBounds", "put", 0, far, far)
            self.check_refused(beach, "OutOfBounds", "put", 0, -far, -far)
            self.check_refused(beach, "OutOfBounds", "lift", -2, 0, far)
            self.check_refused(beach, "OutOfBounds", "lift", -2, -far, 0)
            self.check_refused(beach, "OutOfBounds", "lift", -2, far, far)
            self.check_refused(beach, "OutOfBounds", "sink", -2, 0, -far)
            self.check_refused(beach, "OutOfBounds", "sink", -2, far, 0)
            self.check_refused(beach, "OutOfBounds", "sink", -2, far, far)
        self.check_refused(beach, "OutOfBounds", "lift", 7, 0, 997)
        self.check_gate(beach.lift(7, 0, 996), (7, -3, 1000))
        self.check_refused(beach, "OutOfBounds", "sink", 7, 998, 0)
        self.check_gate(beach.sink(7, 997, 0), (7, -1000, 1000))

    def test_beach_full(self):
        beach = beach_of(Beach(), FULL)
        self.check_refused(beach, "BeachFull", "put", 20, 0, 0)
        self.check_refused(beach, "BeachFull", "put", -1000, -1000, 1000)
        self.check_gate(beach.lift(3, 1, 1), (3, -4, 6))
        self.check_refused(beach, "BeachFull", "put", 20, 0, 0)
        self.check_gate(beach.take(3), (3, -4, 6))
        self.check_gate(beach.put(20, 0, 0), (20, 0, 0))
        self.check_refused(beach, "BeachFull", "put", 3, 0, 0)
        beach.back()
        self.check_gate(beach.put(3, 0, 0), (3, 0, 0))
        self.assertEqual(len(beach.gates()), 40)

    def test_deeds_full(self):
        beach = beach_of(Beach(), FEW, 299)
        self.check_gate(beach.sink(7, 0, 0), (7, -3, 4))
        self.check_stands(beach, FEW, 300)
        self.check_refused(beach, "DeedsFull", "put", 0, 0, 0)
        self.check_refused(beach, "DeedsFull", "take", 7)
        self.check_refused(beach, "DeedsFull", "lift", 7, 0, 0)
        self.check_refused(beach, "DeedsFull", "lift", 7, 1, 1)
        self.check_refused(beach, "DeedsFull", "sink", 7, 0, 0)
        self.assertEqual(beach.back(), 299)
        self.check_gate(beach.take(7), (7, -3, 4))
        self.check_stands(beach, FEW[1:], 300)
        self.check_refused(beach, "DeedsFull", "put", 7, 0, 0)
        self.assertEqual(beach.back(300), 0)
        self.check_stands(beach, [], 0)

    def test_each_order_of_several_refusals(self):
        numbers = (-HUGE, -1001, -1000, -5, 0, 5, 1000, 1001, HUGE)
        seen = {}
        for gates, deeds in ((FULL[:39], 39), (FULL, 40), (FULL[:39], 300), (FULL, 300)):
            plain = PlainBeach()
            plain.done = [("put",) + gate for gate in gates] + [("lift", -20, 0, 0)] * (deeds - len(gates))
            beach = beach_of(Beach(), gates, deeds)
            for word, place in itertools.product(("put", "take", "lift", "sink"), (-20, 19, 30) + numbers):
                for foot, head in [(0, 0)] if word == "take" else itertools.product(numbers, repeat=2):
                    due = plain.refusals(word, place, foot, head)
                    if due:
                        handed = (place,) if word == "take" else (place, foot, head)
                        with self.assertRaises(getattr(errors, due[0]), msg=(word, place, foot, head)):
                            getattr(beach, word)(*handed)
                        seen.setdefault((word, tuple(due)), (place, foot, head))
            self.check_stands(beach, gates, deeds)
        for word in ("put", "lift", "sink"):
            first = "Taken" if word == "put" else "NoGate"
            self.assertIn((word, (first, "UpsideDown", "DeedsFull")), seen)
            self.assertIn((word, (first, "OutOfBounds", "DeedsFull")) if word != "put"
                          else ("put", ("Taken", "OutOfBounds", "BeachFull", "DeedsFull")), seen)
            self.assertIn((word, ("UpsideDown", "OutOfBounds")), seen)
        self.assertIn(("put", ("Taken", "UpsideDown", "OutOfBounds", "BeachFull", "DeedsFull")), seen)
        self.assertIn(("put", ("OutOfBounds", "BeachFull")), seen)
        self.assertIn(("put", ("BeachFull", "DeedsFull")), seen)
        self.assertIn(("put", ("BeachFull",)), seen)
        self.assertIn(("take", ("NoGate", "DeedsFull")), seen)


class BackTest(BeachCase):
    def test_each_deed_taken_back(self):
        beach = beach_of(Beach(), FEW)
        beach.put(0, 1, 2)
        self.assertEqual(beach.back(), 3)
        self.check_stands(beach, FEW, 3)
        beach.take(7)
        self.assertEqual(beach.back(), 3)
        self.check_stands(beach, FEW, 3)
        beach.lift(7, 1, 5)
        self.assertEqual(beach.back(1), 3)
        self.check_stands(beach, FEW, 3)
        beach.sink(7, 1, 5)
        self.assertEqual(beach.back(many=1), 3)
        self.check_stands(beach, FEW, 3)
        beach.lift(7, 0, 0)
        self.assertEqual(beach.deeds(), 4)
        self.assertIs(type(beach.back()), int)
        self.check_stands(beach, FEW, 3)

    def test_by_each_number(self):
        deeds = [("put", 1, 0, 5), ("put", -3, 2, 2), ("lift", 1, 2, 2), ("sink", -3, 9, 0), ("take", 1, 0, 0),
                 ("put", 1, 7, 8), ("lift", -3, 0, 0), ("take", -3, 0, 0)]
        for many in range(1, len(deeds) + 1):
            beach, plain = Beach(), PlainBeach()
            for deed in deeds:
                self.check_gate(do_on(beach, *deed), plain.do(*deed))
            self.assertEqual(beach.back(many), len(deeds) - many)
            plain.back(many)
            self.check_stands(beach, plain.gates(), len(deeds) - many)
            # The same deeds can be done again, and be taken back again.
            for deed in deeds[len(deeds) - many:]:
                self.check_gate(do_on(beach, *deed), plain.do(*deed))
            self.check_stands(beach, plain.gates(), len(deeds))
            self.assertEqual(beach.back(len(deeds)), 0)
            self.check_stands(beach, [], 0)

    def test_out_of_bounds(self):
        for beach in (Beach(), beach_of(Beach(), FEW), beach_of(Beach(), FEW, 300)):
            for many in (0, -1, -1000, -HUGE, -ENORMOUS):
                self.check_refused(beach, "OutOfBounds", "back", many)

    def test_nothing_back(self):
        beach = Beach()
        self.check_refused(beach, "NothingBack", "back")
        self.check_refused(beach, "NothingBack", "back", 1)
        beach_of(beach, FEW)
        for many in (4, 5, 1000, HUGE, ENORMOUS):
            self.check_refused(beach, "NothingBack", "back", many)
        self.assertEqual(beach.back(3), 0)
        self.check_refused(beach, "NothingBack", "back")

    def test_taking_back_is_no_deed(self):
        beach = beach_of(Beach(), FEW)
        beach.back()
        self.assertEqual(beach.deeds(), 2)
        beach.back()
        self.check_stands(beach, FEW[:1], 1)
        beach.put(0, 0, 0)
        beach.back()
        self.check_stands(beach, FEW[:1], 1)

    def test_what_is_refused_is_no_deed(self):
        beach = beach_of(Beach(), FEW)
        self.check_refused(beach, "Taken", "put", 7, 0, 0)
        self.check_refused(beach, "NoGate", "take", 3)
        self.check_refused(beach, "OutOfBounds", "lift", 7, 9999, 9999)
        self.assertEqual(beach.back(), 2)
        self.check_stands(beach, FEW[:2], 2)

    def test_questions_answered_again_as_they_were(self):
        def asked():
            return (beach.gates(), beach.runs(), beach.most(), beach.through([0, 3, 7]), beach.steepest([7, 0]),
                    beach.flattest([3, 7]), beach.passed((0, 1, 1, 3)))
        beach = beach_of(Beach(), [(0, 0, 1), (3, 1, 4), (7, -2, 2), (9, 5, 5)])
        told = [asked()]
        for deed in (("lift", 3, -4, 2), ("sink", 0, 1, 1), ("put", 5, -9, -8), ("take", 9, 0, 0), ("sink", 7, 0, -9)):
            do_on(beach, *deed)
            told.append(asked())
        for many in range(1, 6):
            again = beach_of(Beach(), beach.gates())
            self.assertEqual(again.gates(), beach.gates())
            self.assertEqual(beach.back(), 9 - many)
            self.assertEqual(asked(), told[5 - many])


class LongGameTest(BeachCase):
    """Long rows of deeds, refused ones among them, and of takings back, held against a plain beach."""

    def step(self, dice, beach, plain, reach):
        if dice.roll(1, 12) == 1:
            return self.step_back(dice, beach, plain)
        word = dice.mixed(("put", "put", "put", "take", "lift", "sink"))[0]
        place = dice.roll(-reach, reach)
        numbers = (dice.roll(-6, 6), dice.roll(-6, 6)) if dice.roll(1, 9) > 1 else (dice.roll(-1003, 1003), 1000)
        due = plain.refusals(word, place, *numbers)
        if due:
            handed = (place,) if word == "take" else (place,) + numbers
            self.check_refused(beach, due[0], word, *handed)
            return due[0]
        self.check_gate(do_on(beach, word, place, *numbers), plain.do(word, place, *numbers))
        return word

    def step_back(self, dice, beach, plain):
        many = dice.roll(-1, 6)
        if many < 1:
            self.check_refused(beach, "OutOfBounds", "back", many)
            return "OutOfBounds"
        if many > len(plain.done):
            self.check_refused(beach, "NothingBack", "back", many)
            return "NothingBack"
        self.assertEqual(beach.back(many), plain.back(many))
        return "back"

    def test_long_games(self):
        seen = []
        for seed, reach in ((1, 3), (2, 30), (3, 40), (4, 1002)):
            dice, beach, plain = Dice(seed), Beach(), PlainBeach()
            for step in range(900):
                seen.append(self.step(dice, beach, plain, reach))
                self.check_stands(beach, plain.gates(), len(plain.done))
        for word in ("put", "take", "lift", "sink", "back", "OutOfBounds", "NothingBack", "NoGate", "Taken",
                     "UpsideDown", "BeachFull"):
            self.assertIn(word, seen)


if __name__ == "__main__":
    unittest.main()
