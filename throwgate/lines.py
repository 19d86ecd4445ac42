"""Throws as tuples (height_top, height_bottom, rise_top, rise_bottom)."""

from throwgate.fracs import compare, lowest


def height_at(throw, place):
    height_top = throw[0]
    height_bottom = throw[1]
    rise_top = throw[2]
    rise_bottom = throw[3]
    top = height_top * rise_bottom + place * rise_top * height_bottom
    return lowest(top, height_bottom * rise_bottom)


def line_by(place, height, other, second):
    steps = other - place
    gain = second - height
    start = lowest(height * steps - place * gain, steps)
    rise = lowest(gain, steps)
    return (start[0], start[1], rise[0], rise[1])


def passes(throw, gate):
    height = height_at(throw, gate[0])
    foot = (gate[1], 1)
    head = (gate[2], 1)
    return compare(foot, height) <= 0 and compare(height, head) <= 0
