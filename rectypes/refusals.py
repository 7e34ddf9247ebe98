"""The numbers that a call answers where it refuses."""

NOT_THERE = -1
NO_ROOM = -2
DEFINED_ALREADY = -3
NOT_WHOLE = -4
NO_PATH = -5
