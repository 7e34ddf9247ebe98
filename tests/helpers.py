"""Short ways to write calls and to read answers, for the tests."""

from rectypes.nodes import answers

BIG = 4294967295

OPEN, BASE, ANY, NONE, FUNCTION, RECORD, SUM = range(7)


def new():
    return [1]


def plain(x, kind, base=0):
    return [2, x, kind, base]


def fn(x, argument, result):
    return [3, x, argument, result]


def rows(x, kind, *row):
    return [4, x, kind, len(row), *row]


def record(x, *row):
    return rows(x, RECORD, *row)


def variant(x, *row):
    return rows(x, SUM, *row)


def sub(a, b):
    return [5, a, b]


def why(a, b):
    return [6, a, b]


def join(a, b):
    return [7, a, b]


def meet(a, b):
    return [8, a, b]


def kind(x):
    return [9, x]


def value(x):
    return [10, x]


def part(x, s):
    return [11, x, s]


def label(x, k):
    return [12, x, k]


def flat(calls):
    return [number for call in calls for number in call]


def split(answered, count):
    """The answers one by one; fails unless there are just as many as calls."""
    found = []
    at = 0
    while at < len(answered):
        end = at + 1 + answered[at]
        if answered[at] < 1 or end > len(answered):
            raise AssertionError(f"an answer's count is wrong at {at}: {answered}")
        found.append(answered[at + 1:end])
        at = end
    if len(found) != count:
        raise AssertionError(f"{count} calls, {len(found)} answers")
    return found


def ask(*calls):
    """The answers, one for each call; fails where a list is longer than the interface allows."""
    numbers = flat(calls)
    if not (1 <= len(calls) <= 300 and len(numbers) <= 30000):
        raise AssertionError(f"a list of {len(calls)} calls and {len(numbers)} numbers")
    return split(answers(numbers), len(calls))


def ask_last(*calls):
    return ask(*calls)[-1]


def made(count):
    """Calls that make this many nodes."""
    return [new() for number in range(count)]


def ask_after(calls, questions):
    """The answers to the questions alone."""
    return ask(*calls, *questions)[len(calls):]


def looks(x):
    """Everything that can be asked of one node, but for the parts of labels."""
    return [kind(x), value(x), part(x, 0), part(x, 1), *[label(x, k) for k in range(9)]]


def shape(calls, x):
    """What a node is defined as after these calls, as kind, value, part and label tell it.

    Fails where they don't fit together.
    """
    told, base, argument, result, *labels = ask_after(calls, looks(x))
    tags = [answer[1] for answer in labels if answer[0] == 0]
    if labels != [[0, tag] for tag in tags] + [[-1]] * (9 - len(tags)):
        raise AssertionError(f"labels behind one that's missing: {labels}")
    parts = ask_after(calls, [part(x, 2 + tag) for tag in tags]) if tags else []
    found = {
        OPEN: ("open",),
        BASE: ("base", base[-1]),
        ANY: ("any",),
        NONE: ("none",),
        FUNCTION: ("fn", argument[-1], result[-1]),
        RECORD: ("record", {tag: answer[-1] for tag, answer in zip(tags, parts)}),
        SUM: ("sum", {tag: answer[-1] for tag, answer in zip(tags, parts)}),
    }[told[1]]
    fits = [base[0] == 0, argument[0] == 0, result[0] == 0, tags == sorted(set(tags)), all(a[0] == 0 for a in parts)]
    if fits != [told[1] == BASE, told[1] == FUNCTION, told[1] == FUNCTION, True, True]:
        raise AssertionError(f"a node of kind {told[1]} that isn't told rightly: {found}, {fits}")
    if told[1] not in (RECORD, SUM) and tags:
        raise AssertionError(f"a node of kind {told[1]} with labels")
    return found


def node_count(calls):
    """How many nodes there are, as the number of one more tells; 64 where there's no room for one."""
    answer = ask_last(*calls, new())
    return 64 if answer == [-2] else answer[1]


def shapes_from(calls, first):
    """The shapes of all nodes from one on."""
    return [shape(calls, x) for x in range(first, node_count(calls))]
