"""The calls that compare two nodes: whether one is below the other, and where not, the way to what is wrong."""

from rectypes.graph import ANY, ARGUMENT_STEP, BASE, FUNCTION, NONE, RECORD, RESULT_STEP, SUM
from rectypes.refusals import NO_PATH, refusal_of_two


# A pair that a path leads to keeps only its last step and the place before, so that a long path is not copied at
# each step.
class Place:
    def __init__(self, below, above, before, step):
        self.below = below
        self.above = above
        self.before = before
        self.step = step


def answer_sub(graph, a, b):
    refused = refusal_of_two(graph, a, b)
    if refused != 0:
        return [refused]
    if shortest_path(graph, a, b) is None:
        return [0, 1]
    return [0, 0]


def answer_why(graph, a, b):
    refused = refusal_of_two(graph, a, b)
    if refused != 0:
        return [refused]
    path = shortest_path(graph, a, b)
    if path is None:
        return [NO_PATH]
    return [0] + path


# Places wait in the order of their paths, shorter ones first and those as short number by number; so the first path
# that comes to a pair is the only one that matters for it, and the first wrong pair ends the search.
def shortest_path(graph, a, b):
    seen = {(a, b): True}
    waiting = [Place(a, b, None, 0)]
    done = 0
    while done < len(waiting):
        place = waiting[done]
        done += 1
        x = graph.nodes[place.below]
        y = graph.nodes[place.above]
        if is_wrong_at_once(x, y):
            return steps_to(place)
        for step, below, above in asked_further(x, y):
            if (below, above) not in seen:
                seen[(below, above)] = True
                waiting.append(Place(below, above, place, step))
    return None


def steps_to(place):
    steps = []
    at = place
    while at.before is not None:
        steps.append(at.step)
        at = at.before
    steps.reverse()
    return steps


def is_wrong_at_once(x, y):
    if x.kind == NONE or y.kind == ANY:
        return False
    if x.kind != y.kind:
        return True
    if x.kind == BASE:
        return x.base != y.base
    if x.kind == RECORD:
        return lacks_a_step_of(x, y)
    if x.kind == SUM:
        return lacks_a_step_of(y, x)
    return False


def lacks_a_step_of(node, other):
    for step in other.parts:
        if step not in node.parts:
            return True
    return False


def asked_further(x, y):
    if x.kind != y.kind:
        return []
    if x.kind == FUNCTION:
        return [
            (ARGUMENT_STEP, y.parts[ARGUMENT_STEP], x.parts[ARGUMENT_STEP]),
            (RESULT_STEP, x.parts[RESULT_STEP], y.parts[RESULT_STEP]),
        ]
    return [(step, part, y.parts[step]) for step, part in x.parts.items() if step in y.parts]
