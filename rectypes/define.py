"""The calls that make nodes and define them."""

from rectypes.graph import ANY, ARGUMENT_STEP, BASE, FIRST_LABEL_STEP, FUNCTION, MOST_NODES, MOST_ROWS, NONE, RECORD
from rectypes.graph import RESULT_STEP, SUM, UNDEFINED, Node
from rectypes.refusals import DEFINED_ALREADY, NO_ROOM, NOT_THERE

LAST_BASE = 255
LAST_LABEL = 255


def make_node(graph):
    number = len(graph.nodes)
    if number >= MOST_NODES:
        return [NO_ROOM]
    graph.nodes.append(Node(UNDEFINED, 0, {}))
    return [0, number]


def define_plain(graph, x, kind, base):
    if kind not in (BASE, ANY, NONE) or not graph.has(x):
        return [NOT_THERE]
    if kind == BASE and base > LAST_BASE:
        return [NOT_THERE]
    if graph.is_defined(x):
        return [DEFINED_ALREADY]
    node = graph.nodes[x]
    node.kind = kind
    if kind == BASE:
        node.base = base
    return [0]


def define_function(graph, x, argument, result):
    if not (graph.has(x) and graph.has(argument) and graph.has(result)):
        return [NOT_THERE]
    if graph.is_defined(x):
        return [DEFINED_ALREADY]
    node = graph.nodes[x]
    node.kind = FUNCTION
    node.parts = {ARGUMENT_STEP: argument, RESULT_STEP: result}
    return [0]


def define_rows(graph, x, kind, row):
    if kind not in (RECORD, SUM) or not graph.has(x) or not are_rows(graph, row):
        return [NOT_THERE]
    if graph.is_defined(x):
        return [DEFINED_ALREADY]
    node = graph.nodes[x]
    node.kind = kind
    node.parts = parts_by_step(row)
    return [0]


def are_rows(graph, row):
    if len(row) % 2 != 0 or len(row) > 2 * MOST_ROWS:
        return False
    labels = row[0::2]
    if len(set(labels)) != len(labels):
        return False
    for label in labels:
        if label > LAST_LABEL:
            return False
    for part in row[1::2]:
        if not graph.has(part):
            return False
    return True


# Sorted, since the first of the shortest paths is looked for by rising steps.
def parts_by_step(row):
    parts = {}
    for pair in sorted(zip(row[0::2], row[1::2])):
        parts[FIRST_LABEL_STEP + pair[0]] = pair[1]
    return parts
