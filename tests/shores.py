"""What the tests of gates share: lists of gates to ask about, plain answers to hold against, and checks."""

import copy
import itertools
import math
import unittest
from fractions import Fraction

GREAT = 999999999


class Dice:
    """Numbers that look thrown but are the same in each run and under each Python."""

    def __init__(self, seed):
        self.state = seed * 2654435761 + 97

    def roll(self, least, greatest):
        self.state = (self.state * 6364136223846793005 + 1442695040888963407) % 2 ** 64
        return least + (self.state >> 33) % (greatest - least + 1)

    def mixed(self, things):
        left = list(things)
        return [left.pop(self.roll(0, len(left) - 1)) for step in range(len(things))]

    def places(self, many, least, greatest):
        return self.mixed(range(least, greatest + 1))[:many]


def held(height):
    return max(-1000, min(1000, height))


def wild_gates(dice, many, reach=1000):
    """Gates of any height: of more than a few, three nearly always bar."""
    gates = []
    for place in dice.places(many, -max(reach, many), max(reach, many)):
        ends = sorted((dice.roll(-reach, reach), dice.roll(-reach, reach)))
        gates.append((place, ends[0], ends[1]))
    return gates


def near_gates(dice, many, room):
    """Gates that a hidden straight line passes, each at most `room` steps wider than it must be."""
    reach = max(20, many)
    bottom = dice.roll(1, 9)
    rise = Fraction(dice.roll(-12 * bottom, 12 * bottom), bottom)
    start = Fraction(dice.roll(-300, 300), dice.roll(1, 5))
    gates = []
    for place in dice.places(many, -reach, reach):
        height = start + rise * place
        foot = math.floor(height) - dice.roll(0, room)
        head = math.ceil(height) + dice.roll(0, room)
        gates.append((place, held(foot), held(head)))
    return gates


def spoiled_gates(dice, many):
    """Gates about a hidden line, one of them moved up or down by a little."""
    gates = near_gates(dice, many, 2)
    spot = dice.roll(0, many - 1)
    place, foot, head = gates[spot]
    by = dice.mixed((-4, -3, -2, -1, 1, 2, 3, 4))[0]
    gates[spot] = (place, foot + by, head + by)
    return gates


def bowed_gates(dice, many, room):
    """Gates along a bow: several runs, each of some gates."""
    sign = dice.mixed((-1, 1))[0]
    gates = []
    for place in dice.places(many, -25, 25):
        height = sign * (place * place // 2 + dice.roll(-3, 3))
        gates.append((place, held(height - dice.roll(0, room)), held(height + dice.roll(0, room))))
    return gates


def lone_line_gates(dice, many):
    """Gates that just one throw passes: three of its contacts hold it, from the two sides in turn."""
    rise = dice.roll(-9, 9)
    start = dice.roll(-100, 100)
    places = sorted(dice.places(many, -max(20, many), max(20, many)))
    held_by = sorted(dice.mixed(range(many))[:3])
    side = dice.roll(0, 1)
    gates = []
    for spot, place in enumerate(places):
        height = start + rise * place
        foot, head = height - dice.roll(0, 5), height + dice.roll(0, 5)
        if spot in held_by and (held_by.index(spot) + side) % 2 == 0:
            foot = height
        elif spot in held_by:
            head = height
        gates.append((place, foot, head))
    return dice.mixed(gates)


def edge_gates(dice, many):
    """Gates with ends at -1000 and 1000 or next to them."""
    ends = (-1000, -1000, -999, -1, 0, 1, 999, 1000, 1000)
    places = dice.mixed((-1000, -999, -998, -500, -1, 0, 1, 500, 998, 999, 1000))[:many]
    return [(place,) + tuple(sorted(dice.mixed(ends)[:2])) for place in places]


def many_lists(least, greatest, rounds, seed):
    """Lists of every length from least to greatest, `rounds` of each sort."""
    dice = Dice(seed)
    lists = []
    for many in range(least, greatest + 1):
        for step in range(rounds):
            lists.append(wild_gates(dice, many))
            lists.append(wild_gates(dice, many, 4))
            lists.append(near_gates(dice, many, 0))
            lists.append(near_gates(dice, many, 40))
            if many >= 1:
                lists.append(spoiled_gates(dice, many))
            lists.append(bowed_gates(dice, many, 12))
            lists.append(bowed_gates(dice, many, 60))
            if many >= 3:
                lists.append(lone_line_gates(dice, many))
            if many <= 11:
                lists.append(edge_gates(dice, many))
    return lists


def true_height(throw, place):
    return Fraction(throw[0], throw[1]) + place * Fraction(throw[2], throw[3])


def goes_through(throw, gates):
    return all(foot <= true_height(throw, place) <= head for place, foot, head in gates)


def corner_rises(gates):
    """The rises of all lines by two ends of unlike gates that pass every gate.

    Where a throw passes all of two or more gates, it can be turned and shifted until it goes by two such ends;
    so without such a line there is no throw, and among them are the greatest and the least rise.
    """
    rises = []
    for one, two in itertools.combinations(sorted(gates), 2):
        steps = two[0] - one[0]
        for height, second in itertools.product(one[1:], two[1:]):
            if all(foot * steps <= height * (two[0] - place) + second * (place - one[0]) <= head * steps
                   for place, foot, head in gates):
                rises.append(Fraction(second - height, steps))
    return rises


def some_throw_passes(gates):
    return len(gates) < 2 or corner_rises(gates) != []


def bar_together(one, two, three):
    whole, left, right = three[0] - one[0], two[0] - one[0], three[0] - two[0]
    return (two[1] * whole > one[2] * right + three[2] * left
            or two[2] * whole < one[1] * right + three[1] * left)


def first_of_all_threes(gates):
    threes = [tuple(gate[0] for gate in three)
              for three in itertools.combinations(sorted(gates), 3) if bar_together(*three)]
    return min(threes, default=None)


class ShoreCase(unittest.TestCase):
    def ask(self, function, gates):
        """The answer, after checks that hold for whatever is asked about a list."""
        given = list(gates)
        told = function(given)
        self.assertEqual(given, list(gates), "the list that was handed in has changed")
        kept = copy.deepcopy(told)
        dice = Dice(len(gates))
        for other in (list(gates), list(reversed(gates)), sorted(gates), dice.mixed(gates), dice.mixed(gates)):
            before = list(other)
            again = function(other)
            self.assertEqual(again, told, gates)
            self.assertEqual(other, before, "the list that was handed in has changed")
            if isinstance(again, list):
                self.assertIsNot(again, told)
                again.append("more")
        given.clear()
        self.assertEqual(told, kept, "the answer hangs on the list after it was told")
        return told

    def check_throw(self, throw, gates):
        self.assertIs(type(throw), tuple)
        self.assertEqual([type(number) for number in throw], [int] * 4)
        self.assertTrue(throw[1] >= 1 and throw[3] >= 1, throw)
        self.assertEqual((math.gcd(throw[0], throw[1]), math.gcd(throw[2], throw[3])), (1, 1), throw)
        self.assertTrue(all(-GREAT <= number <= GREAT for number in throw), throw)
        self.assertTrue(goes_through(throw, gates), (throw, gates))

    def check_bar(self, told, gates):
        self.assertIs(type(told), tuple)
        self.assertEqual(told, ("bar", first_of_all_threes(gates)), gates)
        self.check_three(told[1])

    def check_three(self, three):
        self.assertIs(type(three), tuple)
        self.assertEqual([type(place) for place in three], [int] * 3)


class PlainBeach:
    """A beach that keeps its deeds alone and does them all again whenever its gates are asked for."""

    def __init__(self):
        self.done = []

    def ends(self):
        ends = {}
        for word, place, foot, head in self.done:
            if word == "put":
                ends[place] = (foot, head)
            elif word == "take":
                ends.pop(place)
            else:
                sign = {"lift": 1, "sink": -1}[word]
                ends[place] = (ends[place][0] + sign * foot, ends[place][1] + sign * head)
        return ends

    def gates(self):
        return [(place,) + ends for place, ends in sorted(self.ends().items())]

    def refusals(self, word, place, foot, head):
        """The names of all refusals that are due for a deed, in their order."""
        ends = self.ends()
        if word == "put":
            due = ["Taken"] if place in ends else []
            after = (foot, head)
        else:
            due = [] if place in ends else ["NoGate"]
            sign = {"take": 0, "lift": 1, "sink": -1}[word]
            before = ends.get(place, (0, 0))
            after = (before[0] + sign * foot, before[1] + sign * head)
        if word != "take":
            if after[0] > after[1]:
                due.append("UpsideDown")
            numbers = after + (place,) if word == "put" else after
            if min(numbers) < -1000 or max(numbers) > 1000:
                due.append("OutOfBounds")
        if word == "put" and len(ends) >= 40:
            due.append("BeachFull")
        if len(self.done) >= 300:
            due.append("DeedsFull")
        return due

    def do(self, word, place, foot, head):
        """The gate that the deed tells, which none refuses."""
        before = self.ends().get(place)
        self.done.append((word, place, foot, head))
        return (place,) + self.ends().get(place, before)

    def back(self, many):
        self.done = self.done[:len(self.done) - many]
        return len(self.done)


def do_on(beach, word, place, foot, head):
    """One deed, asked of a Beach."""
    if word == "take":
        return beach.take(place)
    return getattr(beach, word)(place, foot, head)


def beach_of(beach, gates, deeds=None):
    """The beach with these gates on it, and with so many deeds that stand."""
    for gate in gates:
        beach.put(*gate)
    while deeds is not None and beach.deeds() < deeds:
        beach.lift(gates[0][0], 0, 0)
    return beach
