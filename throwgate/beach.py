"""A beach: the gates that stand on it, the deeds that led there, and questions about the gates.

The errors tell no numbers: a number that is handed in may be too long to be written out.
"""

from throwgate.bounds import GREAT_NUMBER, GREATEST, LEAST, MOST_DEEDS, MOST_GATES, SMALL_BEACH
from throwgate.errors import (
    BadList, BadThrow, BeachFull, DeedsFull, NoGate, NothingBack, OutOfBounds, Taken, TooFew, UpsideDown, WrongSize
)
from throwgate.lists import flattest_throw, places_passed, steepest_throw, throw_through
from throwgate.shore import fewest_runs
from throwgate.small import most_gates


def check_gate(gate):
    if gate[1] > gate[2]:
        raise UpsideDown("the foot would be above the head")
    for number in gate:
        if number < LEAST or number > GREATEST:
            raise OutOfBounds("a place, foot or head would be out of bounds")


def check_places(places):
    if len(places) == 0:
        raise BadList("the list has no place")
    if len(places) > MOST_GATES:
        raise BadList("the list has too many places")
    if len(set(places)) < len(places):
        raise BadList("the list has a place twice")


def check_throw(throw):
    if throw[1] < 1 or throw[3] < 1:
        raise BadThrow("a bottom is below 1")
    for number in throw:
        if number < -GREAT_NUMBER or number > GREAT_NUMBER:
            raise BadThrow("a number of the throw is too great")


class Beach:
    def __init__(self):
        # In the order of the shore. A deed sets a new list here and leaves the old one as it was,
        # so that taking back need only set an old one again.
        self.standing = []
        # For each deed that stands, the gates as they stood ahead of it.
        self.past = []

    def has_gate(self, place):
        return place in [gate[0] for gate in self.standing]

    def gate_at(self, place):
        for gate in self.standing:
            if gate[0] == place:
                return gate
        raise NoGate("no gate stands at this place")

    def do_deed(self, place, instead):
        # DeedsFull is the last refusal of every deed, so all others are due ahead of this call.
        if len(self.past) >= MOST_DEEDS:
            raise DeedsFull("no more deeds may stand")
        others = [gate for gate in self.standing if gate[0] != place]
        self.past.append(self.standing)
        self.standing = sorted(others + instead)

    def put(self, place, foot, head):
        if self.has_gate(place):
            raise Taken("a gate stands at this place already")
        gate = (place, foot, head)
        check_gate(gate)
        if len(self.standing) >= MOST_GATES:
            raise BeachFull("no more gates may stand")
        self.do_deed(place, [gate])
        return gate

    def take(self, place):
        gate = self.gate_at(place)
        self.do_deed(place, [])
        return gate

    def lift(self, place, foot_by, head_by):
        before = self.gate_at(place)
        gate = (before[0], before[1] + foot_by, before[2] + head_by)
        check_gate(gate)
        self.do_deed(place, [gate])
        return gate

    def sink(self, place, foot_by, head_by):
        return self.lift(place, -foot_by, -head_by)

    def back(self, many=1):
        if many < 1:
            raise OutOfBounds("one deed is the least that is taken back")
        if many > len(self.past):
            raise NothingBack("fewer deeds stand")
        left = len(self.past) - many
        self.standing = self.past[left]
        self.past = self.past[:left]
        return left

    def gates(self):
        return list(self.standing)

    def deeds(self):
        return len(self.past)

    def gates_at(self, places):
        check_places(places)
        return [self.gate_at(place) for place in places]

    def two_gates_at(self, places):
        gates = self.gates_at(places)
        if len(gates) < 2:
            raise TooFew("one gate alone has no steepest and no flattest throw")
        return gates

    def through(self, places):
        return throw_through(self.gates_at(places))

    def steepest(self, places):
        return steepest_throw(self.two_gates_at(places))

    def flattest(self, places):
        return flattest_throw(self.two_gates_at(places))

    def runs(self):
        return fewest_runs(self.standing)

    def most(self):
        if len(self.standing) == 0 or len(self.standing) > SMALL_BEACH:
            raise WrongSize("the most are told of a small beach that is not empty")
        return most_gates(self.standing)

    def passed(self, throw):
        check_throw(throw)
        return places_passed(throw, self.standing)
