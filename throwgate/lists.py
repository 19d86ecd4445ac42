"""Throws through every gate of a list, or the first three that bar.

A list called ordered holds its gates in the order of the shore.
"""

from throwgate.bars import first_three
from throwgate.fracs import compare
from throwgate.lines import line_by, passes


def passes_all(throw, gates):
    return all([passes(throw, gate) for gate in gates])


def places_passed(throw, ordered):
    return [gate[0] for gate in ordered if passes(throw, gate)]


def foot_to_head(earlier, later):
    return (later[2] - earlier[1], later[0] - earlier[0])


def tightest_pair(ordered):
    pair = (ordered[0], ordered[1])
    for index, earlier in enumerate(ordered):
        for later in ordered[index + 1:]:
            if compare(foot_to_head(earlier, later), foot_to_head(pair[0], pair[1])) < 0:
                pair = (earlier, later)
    return pair


def steepest_found(ordered):
    # No throw through all gates rises faster than from any foot to any later head. Where there is
    # such a throw, the steepest one reaches the least of these rises; so if the line of the
    # tightest pair misses a gate, no throw passes them all.
    pair = tightest_pair(ordered)
    foot_place = pair[0][0]
    head_place = pair[1][0]
    throw = line_by(foot_place, pair[0][1], head_place, pair[1][2])
    if not passes_all(throw, ordered):
        return None
    return (throw, foot_place, head_place)


def level_throw(height):
    return (height, 1, 0, 1)


def common_throw(ordered):
    if len(ordered) == 0:
        return level_throw(0)
    # One gate alone has no steepest throw.
    if len(ordered) == 1:
        return level_throw(ordered[0][1])
    found = steepest_found(ordered)
    if found is None:
        return None
    return found[0]


def bar_told(gates):
    return ("bar", first_three(gates))


def throw_through(gates):
    throw = common_throw(sorted(gates))
    if throw is None:
        return bar_told(gates)
    return ("throw", throw)


def steepest_throw(gates):
    found = steepest_found(sorted(gates))
    if found is None:
        return bar_told(gates)
    return ("throw", found[0], found[1], found[2])


def turned_over(gate):
    return (gate[0], -gate[2], -gate[1])


def turned_throw(throw):
    return (-throw[0], throw[1], -throw[2], throw[3])


def flattest_throw(gates):
    # With all heights turned over, heads become feet and the least rise becomes the greatest one.
    found = steepest_found([turned_over(gate) for gate in sorted(gates)])
    if found is None:
        return bar_told(gates)
    return ("throw", turned_throw(found[0]), found[1], found[2])
