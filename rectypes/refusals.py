"""The numbers that a call answers where it refuses, and the refusals that all calls on two nodes share."""

NOT_THERE = -1
NO_ROOM = -2
DEFINED_ALREADY = -3
NOT_WHOLE = -4
NO_PATH = -5
TOO_WIDE = -6


def refusal_of_two(graph, a, b):
    if not (graph.has(a) and graph.has(b)):
        return NOT_THERE
    if not (graph.is_whole(a) and graph.is_whole(b)):
        return NOT_WHOLE
    return 0
