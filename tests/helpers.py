"""Short ways to write calls and to read answers, for the tests."""

from rectypes.nodes import answers

BIG = 4294967295

BASE, ANY, NONE, RECORD, SUM = 1, 2, 3, 5, 6


def new():
    return [1]


def plain(x, kind, base=0):
    return [2, x, kind, base]


def fn(x, argument, result):
    return [3, x, argument, result]


def rows(x, kind, *row):
    return [4, x, kind, len(row), *row]


def record(x, *row):
    return rows(x, RECORD, *row)


def variant(x, *row):
    return rows(x, SUM, *row)


def sub(a, b):
    return [5, a, b]


def why(a, b):
    return [6, a, b]


def flat(calls):
    return [number for call in calls for number in call]


def split(answered, count):
    """The answers one by one; fails unless there are just as many as calls."""
    found = []
    at = 0
    while at < len(answered):
        end = at + 1 + answered[at]
        if answered[at] < 1 or end > len(answered):
            raise AssertionError(f"an answer's count is wrong at {at}: {answered}")
        found.append(answered[at + 1:end])
        at = end
    if len(found) != count:
        raise AssertionError(f"{count} calls, {len(found)} answers")
    return found


def ask(*calls):
    return split(answers(flat(calls)), len(calls))


def ask_last(*calls):
    return ask(*calls)[-1]


def made(count):
    """Calls that make this many nodes."""
    return [new() for number in range(count)]
