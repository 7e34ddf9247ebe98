"""Another reckoning of the answers, straight from the document's words and slow, to hold the program against.

Whether a path exists is found here by striking out pairs until none is left to strike, and the path is put together
from how far each pair is from what's wrong, so that nothing is shared with the program's own way.
"""


def wrong(x, y):
    if x == ("none",) or y == ("any",):
        return False
    if x[0] == "base" and y[0] == "base":
        return x[1] != y[1]
    if x[0] == "fn" and y[0] == "fn":
        return False
    if x[0] == "record" and y[0] == "record":
        return not set(y[1]) <= set(x[1])
    if x[0] == "sum" and y[0] == "sum":
        return not set(x[1]) <= set(y[1])
    return True


def further(x, y):
    if x[0] == "fn" and y[0] == "fn":
        return {0: (y[1], x[1]), 1: (x[2], y[2])}
    if x[0] == y[0] and x[0] in ("record", "sum"):
        return {2 + k: (x[1][k], y[1][k]) for k in set(x[1]) & set(y[1])}
    return {}


def named(node):
    if node[0] == "fn":
        return [node[1], node[2]]
    if node[0] in ("record", "sum"):
        return list(node[1].values())
    return []


def least_above(x, y):
    """A definition whose parts are nodes' numbers or pairs."""
    if x == ("none",):
        return y
    if y == ("none",):
        return x
    if ("any",) in (x, y):
        return ("any",)
    if x[0] == "base" and x == y:
        return x
    if x[0] == "fn" and y[0] == "fn":
        return ("fn", ("greatest", x[1], y[1]), ("least", x[2], y[2]))
    if x[0] == "record" and y[0] == "record":
        return ("record", {k: ("least", x[1][k], y[1][k]) for k in x[1] if k in y[1]})
    if x[0] == "sum" and y[0] == "sum":
        return ("sum", {**x[1], **y[1], **{k: ("least", x[1][k], y[1][k]) for k in x[1] if k in y[1]}})
    return ("any",)


def greatest_below(x, y):
    if ("none",) in (x, y):
        return ("none",)
    if x == ("any",):
        return y
    if y == ("any",):
        return x
    if x[0] == "base" and x == y:
        return x
    if x[0] == "fn" and y[0] == "fn":
        return ("fn", ("least", x[1], y[1]), ("greatest", x[2], y[2]))
    if x[0] == "record" and y[0] == "record":
        return ("record", {**x[1], **y[1], **{k: ("greatest", x[1][k], y[1][k]) for k in x[1] if k in y[1]}})
    if x[0] == "sum" and y[0] == "sum":
        return ("sum", {k: ("greatest", x[1][k], y[1][k]) for k in x[1] if k in y[1]})
    return ("none",)


def in_order(node):
    """The parts of a definition, the argument's ahead of the result's, or by rising label."""
    return [node[1][k] for k in sorted(node[1])] if node[0] in ("record", "sum") else named(node)


def with_parts(node, put):
    if node[0] == "fn":
        return ("fn", put(node[1]), put(node[2]))
    if node[0] in ("record", "sum"):
        return (node[0], {k: put(part) for k, part in node[1].items()})
    return node


class Model:
    def __init__(self):
        self.nodes = []
        self.known = (None, None)

    def there(self, *numbers):
        return all(number < len(self.nodes) for number in numbers)

    def define(self, x, node):
        if self.nodes[x] is not None:
            return [-3]
        self.nodes[x] = node
        return [0]

    def new(self):
        if len(self.nodes) == 64:
            return [-2]
        self.nodes.append(None)
        return [0, len(self.nodes) - 1]

    def plain(self, x, kind, base):
        if kind not in (1, 2, 3) or (kind == 1 and base > 255) or not self.there(x):
            return [-1]
        return self.define(x, {1: ("base", base), 2: ("any",), 3: ("none",)}[kind])

    def fn(self, x, argument, result):
        if not self.there(x, argument, result):
            return [-1]
        return self.define(x, ("fn", argument, result))

    def rows(self, x, kind, row):
        labels, parts = row[0::2], row[1::2]
        if kind not in (5, 6) or len(labels) != len(parts) or len(labels) > 8 or not self.there(x, *parts):
            return [-1]
        if any(label > 255 or labels.count(label) > 1 for label in labels):
            return [-1]
        return self.define(x, ({5: "record", 6: "sum"}[kind], dict(zip(labels, parts))))

    def not_whole(self):
        """The nodes that lead to an open one."""
        bad = {x for x, node in enumerate(self.nodes) if node is None}
        while True:
            more = {x for x, node in enumerate(self.nodes) if x not in bad and bad & set(named(node))}
            if not more:
                return bad
            bad |= more

    def distances(self):
        """How many steps each pair of whole nodes is from what's wrong; pairs from which nothing is, are left out."""
        bad = self.not_whole()
        whole = [x for x in range(len(self.nodes)) if x not in bad]
        asks = {(x, y): further(self.nodes[x], self.nodes[y]) for x in whole for y in whole}
        far = {pair: 0 for pair in asks if wrong(self.nodes[pair[0]], self.nodes[pair[1]])}
        steps = 0
        while True:
            steps += 1
            struck = [p for p in asks if p not in far and any(q in far for q in asks[p].values())]
            if not struck:
                return far
            far.update({pair: steps for pair in struck})

    def compare(self, a, b, as_path):
        if not self.there(a, b):
            return [-1]
        if {a, b} & self.not_whole():
            return [-4]
        if self.known[0] != self.nodes:
            self.known = (list(self.nodes), self.distances())
        far = self.known[1]
        if not as_path:
            return [0, 0 if (a, b) in far else 1]
        return [0] + self.path((a, b), far) if (a, b) in far else [-5]

    def path(self, pair, far):
        steps = []
        while far[pair] > 0:
            asked = further(self.nodes[pair[0]], self.nodes[pair[1]])
            step = min(step for step, q in asked.items() if far.get(q, -1) == far[pair] - 1)
            steps.append(step)
            pair = asked[step]
        return steps

    def bound(self, pair):
        if not self.there(*pair[1:]):
            return [-1]
        if set(pair[1:]) & self.not_whole():
            return [-4]
        numbers, defined = {pair: len(self.nodes)}, []
        while len(defined) < len(numbers):
            which, a, b = list(numbers)[len(defined)]
            ways = {"least": least_above, "greatest": greatest_below}
            defined.append(ways[which](self.nodes[a], self.nodes[b]))
            for part in in_order(defined[-1]):
                if isinstance(part, tuple):
                    numbers.setdefault(part, len(self.nodes) + len(numbers))
        if any(node[0] in ("record", "sum") and len(node[1]) > 8 for node in defined):
            return [-6]
        if len(self.nodes) + len(numbers) > 64:
            return [-2]
        self.nodes += [with_parts(node, lambda part: numbers.get(part, part)) for node in defined]
        return [0, numbers[pair]]

    def kind(self, x):
        if not self.there(x):
            return [-1]
        sorts = ("base", "any", "none", "fn", "record", "sum")
        return [0, 0 if self.nodes[x] is None else 1 + sorts.index(self.nodes[x][0])]

    def sort_of(self, x):
        return self.nodes[x][0] if self.there(x) and self.nodes[x] is not None else ""

    def value(self, x):
        return [0, self.nodes[x][1]] if self.sort_of(x) == "base" else [-1]

    def part(self, x, s):
        if self.sort_of(x) == "fn" and s in (0, 1):
            return [0, self.nodes[x][1 + s]]
        if self.sort_of(x) in ("record", "sum") and s - 2 in self.nodes[x][1]:
            return [0, self.nodes[x][1][s - 2]]
        return [-1]

    def label(self, x, k):
        if self.sort_of(x) in ("record", "sum") and k < len(self.nodes[x][1]):
            return [0, sorted(self.nodes[x][1])[k]]
        return [-1]

    def answer(self, call):
        return {
            1: lambda: self.new(),
            2: lambda: self.plain(*call[1:]),
            3: lambda: self.fn(*call[1:]),
            4: lambda: self.rows(call[1], call[2], call[4:]),
            5: lambda: self.compare(*call[1:], False),
            6: lambda: self.compare(*call[1:], True),
            7: lambda: self.bound(("least", *call[1:])),
            8: lambda: self.bound(("greatest", *call[1:])),
            9: lambda: self.kind(*call[1:]),
            10: lambda: self.value(*call[1:]),
            11: lambda: self.part(*call[1:]),
            12: lambda: self.label(*call[1:]),
        }[call[0]]()
