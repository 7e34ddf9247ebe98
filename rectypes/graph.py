"""The nodes of one graph, and what each of them is defined as."""

UNDEFINED = 0
BASE = 1
ANY = 2
NONE = 3
FUNCTION = 4
RECORD = 5
SUM = 6

ARGUMENT_STEP = 0
RESULT_STEP = 1
FIRST_LABEL_STEP = 2

MOST_NODES = 64
MOST_ROWS = 8


# The parts stand by rising step, so that who walks them comes to the first step first. The base is 0 unless the
# kind is BASE, so that of two nodes of one kind it can be compared whatever that kind is.
class Node:
    def __init__(self, kind, base, parts):
        self.kind = kind
        self.base = base
        self.parts = parts


class Graph:
    def __init__(self):
        self.nodes = []

    def has(self, x):
        return x < len(self.nodes)

    def is_defined(self, x):
        return self.nodes[x].kind != UNDEFINED

    def is_whole(self, x):
        reached = {x: True}
        waiting = [x]
        while len(waiting) > 0:
            node = self.nodes[waiting.pop()]
            if node.kind == UNDEFINED:
                return False
            for part in node.parts.values():
                if part not in reached:
                    reached[part] = True
                    waiting.append(part)
        return True
