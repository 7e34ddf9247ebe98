"""The calls that tell what a node is defined as."""

from rectypes.graph import BASE, FIRST_LABEL_STEP, RECORD, SUM
from rectypes.refusals import NOT_THERE


def answer_kind(graph, x):
    if not graph.has(x):
        return [NOT_THERE]
    return [0, graph.nodes[x].kind]


def answer_value(graph, x):
    if not graph.has(x) or graph.nodes[x].kind != BASE:
        return [NOT_THERE]
    return [0, graph.nodes[x].base]


def answer_part(graph, x, step):
    if not graph.has(x) or step not in graph.nodes[x].parts:
        return [NOT_THERE]
    return [0, graph.nodes[x].parts[step]]


def answer_label(graph, x, place):
    if not graph.has(x):
        return [NOT_THERE]
    labels = labels_of(graph.nodes[x])
    if place >= len(labels):
        return [NOT_THERE]
    return [0, labels[place]]


# Rising, as the parts of a node stand by rising step.
def labels_of(node):
    if node.kind not in (RECORD, SUM):
        return []
    return [step - FIRST_LABEL_STEP for step in node.parts]
