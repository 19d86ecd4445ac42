"""The bounds of gates, beaches, deeds and throws."""

# Of places, feet and heads.
LEAST = -1000
GREATEST = 1000

MOST_GATES = 40
MOST_DEEDS = 300

# Up to so many gates the most gates are told.
SMALL_BEACH = 12

# The greatest number of a throw; the least one is as far below 0.
GREAT_NUMBER = 999999999
