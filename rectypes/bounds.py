"""The calls that make bounds: the least node above two others, and the greatest below them."""

from rectypes.graph import ANY, ARGUMENT_STEP, FUNCTION, MOST_NODES, MOST_ROWS, NONE, RECORD, RESULT_STEP, SUM, Node
from rectypes.refusals import NO_ROOM, TOO_WIDE, refusal_of_two


# A pair stands as (least, first, second): least is True for the least above the two, False for the greatest below.
def answer_join(graph, a, b):
    return answer_bound(graph, (True, a, b))


def answer_meet(graph, a, b):
    return answer_bound(graph, (False, a, b))


def answer_bound(graph, pair):
    refused = refusal_of_two(graph, pair[1], pair[2])
    if refused != 0:
        return [refused]
    pairs = pairs_from(graph, pair)
    if pairs is None:
        return [TOO_WIDE]
    number = len(graph.nodes)
    if number + len(pairs) > MOST_NODES:
        return [NO_ROOM]
    graph.nodes.extend(bounds_of(graph, pairs))
    return [0, number]


# None if one of the pairs is too wide. All are gone through even where there is no room for so many nodes, since too
# wide is told ahead of that.
def pairs_from(graph, start):
    seen = {start: True}
    pairs = [start]
    done = 0
    while done < len(pairs):
        least = pairs[done][0]
        x = graph.nodes[pairs[done][1]]
        y = graph.nodes[pairs[done][2]]
        done += 1
        asked = pairs_by_step(least, x, y)
        if keeps_rows_of_either(least, x, y) and len(x.parts) + len(y.parts) - len(asked) > MOST_ROWS:
            return None
        for step, pair in asked:
            if pair not in seen:
                seen[pair] = True
                pairs.append(pair)
    return pairs


# By rising step, as the parts of a node stand so.
def pairs_by_step(least, x, y):
    if x.kind != y.kind:
        return []
    if x.kind == FUNCTION:
        return [
            (ARGUMENT_STEP, (not least, x.parts[ARGUMENT_STEP], y.parts[ARGUMENT_STEP])),
            (RESULT_STEP, (least, x.parts[RESULT_STEP], y.parts[RESULT_STEP])),
        ]
    return [(step, (least, part, y.parts[step])) for step, part in x.parts.items() if step in y.parts]


def keeps_rows_of_either(least, x, y):
    return x.kind == y.kind and x.kind == (SUM if least else RECORD)


def bounds_of(graph, pairs):
    numbers = {}
    for place, pair in enumerate(pairs, start=len(graph.nodes)):
        numbers[pair] = place
    return [bound_of(pair[0], graph.nodes[pair[1]], graph.nodes[pair[2]], numbers) for pair in pairs]


def bound_of(least, x, y, numbers):
    gives_way = NONE if least else ANY
    if x.kind == gives_way:
        return Node(y.kind, y.base, dict(y.parts))
    if y.kind == gives_way:
        return Node(x.kind, x.base, dict(x.parts))
    if x.kind != y.kind or x.base != y.base:
        return Node(ANY if least else NONE, 0, {})
    return Node(x.kind, x.base, parts_of_bound(least, x, y, numbers))


def parts_of_bound(least, x, y, numbers):
    parts = {}
    if keeps_rows_of_either(least, x, y):
        parts.update(x.parts)
        parts.update(y.parts)
    for step, pair in pairs_by_step(least, x, y):
        parts[step] = numbers[pair]
    return dict(sorted(parts.items()))
