"""The most gates of a small list that one throw passes."""

from throwgate.lines import line_by
from throwgate.lists import common_throw, places_passed


def tried_throws(ordered):
    # Where two gates or more are the most, the steepest throw through just these goes by the foot
    # of one and the head of a later one, so it is among these lines. The throw through the first
    # gate alone is there for a list that has no two.
    throws = [common_throw(ordered[:1])]
    for index, earlier in enumerate(ordered):
        for later in ordered[index + 1:]:
            throws.append(line_by(earlier[0], earlier[1], later[0], later[2]))
    return throws


def most_gates(gates):
    ordered = sorted(gates)
    tried = [(places_passed(throw, ordered), throw) for throw in tried_throws(ordered)]
    return max(tried, key=lambda told: len(told[0]))
