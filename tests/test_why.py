"""why, and promise 2: the first of the shortest paths is told."""

import contextlib
import signal
import sys
import unittest

from tests.helpers import (ANY, BIG, NONE, RECORD, SUM, ask, ask_last, flat, fn, made, new, plain, record, rows, sub,
                           variant, why)
from tests.test_sub import BOTTOM, ONE, START, TOP, TWO, depth


@contextlib.contextmanager
def few_seconds_and_no_depth(seconds=60):
    """A search that goes over every path, or that calls itself at each step, doesn't come through here."""
    def late(number, frame):
        raise AssertionError("it took too long")
    limit, old = sys.getrecursionlimit(), signal.signal(signal.SIGALRM, late)
    signal.alarm(seconds)
    sys.setrecursionlimit(depth() + 60)
    try:
        yield
    finally:
        sys.setrecursionlimit(limit)
        signal.alarm(0)
        signal.signal(signal.SIGALRM, old)


class Why(unittest.TestCase):
    def told(self, calls, a, b, *path):
        self.assertEqual(ask_last(*START, *calls, why(a, b)), [0, *path], (calls, a, b))

    def test_the_empty_path(self):
        calls = [fn(4, ONE, ONE), record(5, 1, ONE), record(6), variant(7, 1, ONE), variant(8)]
        for a, b in ((ONE, TWO), (TOP, BOTTOM), (TOP, ONE), (ONE, BOTTOM), (ONE, 4), (4, 5), (5, 7), (6, 8), (6, 5),
                     (7, 8), (TOP, 6), (8, BOTTOM)):
            self.told(calls, a, b)

    def test_one_step(self):
        self.told([fn(4, ONE, ONE), fn(5, TWO, ONE)], 4, 5, 0)
        self.told([fn(4, ONE, ONE), fn(5, ONE, TWO)], 4, 5, 1)
        self.told([record(4, 0, ONE), record(5, 0, TWO)], 4, 5, 2)
        self.told([record(4, 255, ONE), record(5, 255, TWO)], 4, 5, 257)
        self.told([variant(4, 0, ONE), variant(5, 0, TWO)], 4, 5, 2)
        self.told([variant(4, 255, ONE), variant(5, 255, TWO)], 4, 5, 257)

    def test_the_argument_is_asked_the_other_way_round(self):
        self.told([fn(4, ONE, TWO), fn(5, TOP, TWO)], 4, 5, 0)
        self.assertEqual(ask_last(*START, fn(4, TOP, TWO), fn(5, ONE, TWO), why(4, 5)), [-5])

    def test_several_steps_through_all_kinds(self):
        calls = [fn(4, TOP, 5), record(5, 7, 6, 3, TWO), variant(6, 9, ONE),
                 fn(7, TOP, 8), record(8, 7, 9, 3, TWO), variant(9, 9, TWO)]
        self.told(calls, 4, 7, 1, 9, 11)

    def test_a_path_through_an_argument_turns_round(self):
        calls = [fn(4, 5, ONE), record(5, 7, ONE), fn(6, 7, ONE), record(7, 7, ONE, 8, ONE)]
        self.assertEqual(ask(*START, *calls, why(4, 6), why(6, 4))[-2:], [[-5], [0, 0]])
        calls = [fn(4, 5, ONE), fn(5, 6, ONE), record(6, 4, TWO), fn(7, 8, ONE), fn(8, 9, ONE), record(9, 4, TOP)]
        self.assertEqual(ask(*START, *calls, why(4, 7), why(7, 4))[-2:], [[-5], [0, 0, 0, 6]])

    def test_of_those_as_short_the_first_by_its_numbers(self):
        self.told([fn(4, ONE, ONE), fn(5, TWO, TWO)], 4, 5, 0)
        for kind in (RECORD, SUM):
            self.told([rows(4, kind, 200, ONE, 7, ONE, 9, ONE), rows(5, kind, 9, TWO, 7, TWO, 200, TWO)], 4, 5, 9)
            self.told([rows(4, kind, 200, ONE, 7, ONE, 9, ONE), rows(5, kind, 9, TWO, 7, ONE, 200, TWO)], 4, 5, 11)

    def test_labels_are_ordered_as_numbers(self):
        self.told([record(4, 100, ONE, 20, ONE, 3, ONE), record(5, 100, TWO, 20, TWO, 3, ONE)], 4, 5, 22)

    def test_of_those_as_short_the_first_number_decides_first(self):
        calls = [record(4, 1, 5, 2, 6), record(5, 9, ONE), record(6, 0, ONE),
                 record(7, 1, 8, 2, 9), record(8, 9, TWO), record(9, 0, TWO)]
        self.told(calls, 4, 7, 3, 11)

    def test_of_those_as_short_where_the_same_pair_is_come_to_twice(self):
        calls = [record(4, 5, 5, 1, 6, 3, 6), record(5, 0, ONE), record(6, 9, 5),
                 record(7, 5, 8, 1, 9, 3, 9), record(8, 0, ONE), record(9, 9, 10), record(10, 0, TWO)]
        self.told(calls, 4, 7, 3, 11, 2)

    def test_a_shorter_path_with_larger_numbers_comes_first(self):
        calls = [record(4, 0, 5, 255, ONE), record(5, 0, ONE), record(6, 0, 7, 255, TWO), record(7, 0, TWO)]
        self.told(calls, 4, 6, 257)
        calls = [fn(4, 5, ONE), fn(5, ONE, ONE), fn(6, 7, TWO), fn(7, TWO, ONE)]
        self.told(calls, 4, 6, 1)

    def test_a_shorter_path_behind_a_longer_one_in_a_cycle(self):
        calls = [record(4, 0, 5, 3, 6), record(5, 0, 6), record(6, 0, 4, 1, ONE),
                 record(7, 0, 8, 3, 9), record(8, 0, 9), record(9, 0, 7, 1, TWO)]
        self.told(calls, 4, 7, 5, 3)

    def test_the_path_ends_at_the_first_place_that_is_wrong(self):
        self.told([record(4, 1, ONE), record(5, 1, TWO, 2, ONE)], 4, 5)
        self.told([record(6, 3, 4), record(7, 3, 5), record(4, 1, ONE), record(5, 1, TWO, 2, ONE)], 6, 7, 5)

    def test_cycles(self):
        calls = [record(4, 1, 5), record(5, 1, 4, 2, ONE), record(6, 1, 7), record(7, 1, 6, 2, TWO)]
        self.told(calls, 4, 6, 3, 4)
        self.told(calls, 4, 7)
        calls = [fn(4, 5, ONE), fn(5, 4, ONE), fn(6, 7, ONE), fn(7, 8, ONE), fn(8, 6, TOP)]
        self.told(calls, 4, 6, 0, 0, 0, 0, 0, 1)
        self.told(calls, 6, 4, 0, 0, 1)


class WhyRefused(unittest.TestCase):
    def test_no_path(self):
        calls = [record(4, 1, 4), record(5, 1, 6), record(6, 1, 5), fn(7, TOP, BOTTOM), fn(8, ONE, TWO)]
        for a, b in ((ONE, ONE), (TOP, TOP), (BOTTOM, BOTTOM), (BOTTOM, TOP), (ONE, TOP), (BOTTOM, ONE), (4, 5), (5, 4),
                     (5, 6), (7, 8)):
            self.assertEqual(ask_last(*START, *calls, why(a, b)), [-5])

    def test_no_node(self):
        self.assertEqual(ask(why(0, 0), new(), plain(0, ANY), why(0, 1), why(1, 0), why(BIG, 0), why(0, BIG)),
                         [[-1], [0, 0], [0], [-1], [-1], [-1], [-1]])

    def test_no_node_comes_ahead_of_not_whole(self):
        self.assertEqual(ask(new(), why(0, 1), why(1, 0), why(0, 0)), [[0, 0], [-1], [-1], [-4]])

    def test_not_whole(self):
        calls = [*made(5), plain(0, ANY), plain(1, NONE), record(2, 5, 3, 1, 2), fn(4, 0, 2)]
        self.assertEqual(ask(*calls, why(2, 0), why(0, 2), why(1, 2), why(4, 4), why(3, 3))[-5:], [[-4]] * 5)


def two_cycles(kind, first, second):
    """Two cycles that go wrong only where both are at their last node, so that every pair is come to before.

    Records lack a label there that is asked, sums have a tag there that is not.
    """
    calls = made(first + second)
    for at in range(first):
        following = (at + 1) % first
        full = (at == first - 1) == (kind == SUM)
        calls.append(rows(at, kind, *([1, following] if full else []), 0, following))
    for at in range(second):
        following = first + (at + 1) % second
        full = (at == second - 1) == (kind == RECORD)
        calls.append(rows(first + at, kind, *([1, following] if full else []), 0, following))
    return calls


class LongPaths(unittest.TestCase):
    def test_two_cycles_over_all_nodes(self):
        for kind in (RECORD, SUM):
            for first, second in ((31, 33), (33, 31), (2, 61), (3, 61), (29, 35)):
                with self.subTest(kind=kind, first=first, second=second), few_seconds_and_no_depth():
                    answered = ask(*two_cycles(kind, first, second), why(0, first), sub(0, first))
                self.assertEqual(answered[-2:], [[0, *[2] * (first * second - 1)], [0, 0]])

    def test_two_cycles_that_never_meet(self):
        with few_seconds_and_no_depth():
            answered = ask(*two_cycles(RECORD, 32, 32), why(0, 33), sub(0, 33), why(0, 32))
        self.assertEqual(answered[-3:], [[-5], [0, 1], [0, *[2] * 31]])

    def test_a_long_path_whose_numbers_differ(self):
        """Cycles of 31 and 32 records; from every other one of the 32 the smaller label leads to any, so to nothing."""
        top, first, second = 63, 31, 32
        calls = [*made(64), plain(top, ANY)]
        for at in range(first):
            following = (at + 1) % first
            calls.append(record(at, 0, following, 1, following, *([] if at == first - 1 else [2, following])))
        for at in range(second):
            following = first + (at + 1) % second
            smaller = top if at % 2 == 1 else following
            calls.append(record(first + at, 1, following, 0, smaller, *([2, following] if at == second - 1 else [])))
        with few_seconds_and_no_depth():
            answered = ask_last(*calls, why(0, first))
        self.assertEqual(answered, [0, *[2 + t % 2 for t in range(first * second - 1)]])

    def test_many_questions_over_many_pairs(self):
        calls = made(64)
        calls += [record(x, *flat([[k, (x * 7 + k * k * 5 + 3) % 64] for k in range(8)])) for x in range(64)]
        calls += [why(x % 64, (x * 5 + 1) % 64) for x in range(172)]
        self.assertEqual(len(calls), 300)
        with few_seconds_and_no_depth():
            self.assertEqual(ask(*calls)[128:], [[-5]] * 172)
