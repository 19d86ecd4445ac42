"""Three gates that bar the way: no throw passes all three."""


def side_of_line(place, height, start, end):
    # Above 0 if the height lies above the line from start to end, below 0 if below it. Multiplied
    # by the steps from start to end, so that a fraction of a step counts too.
    steps = end[0] - start[0]
    gain = end[1] - start[1]
    return (height - start[1]) * steps - gain * (place - start[0])


def barring(one, two, three):
    if side_of_line(two[0], two[1], (one[0], one[2]), (three[0], three[2])) > 0:
        return "foot"
    if side_of_line(two[0], two[2], (one[0], one[1]), (three[0], three[1])) < 0:
        return "head"
    return ""


def first_three(gates):
    ordered = sorted(gates)
    count = len(ordered)
    # The walk goes by the least first, then middle, then last place, so it may stop at once.
    for first in range(count):
        for middle in range(first + 1, count):
            for last in range(middle + 1, count):
                if barring(ordered[first], ordered[middle], ordered[last]) != "":
                    return (ordered[first][0], ordered[middle][0], ordered[last][0])
    return None
