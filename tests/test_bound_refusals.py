"""join and meet where they refuse: the order of the refusals, that nothing is changed, and bounds of many pairs."""

import unittest

from tests.helpers import (ANY, BASE, BIG, NONE, RECORD, SUM, ask, ask_after, ask_last, flat, fn, join, made, meet, new,
                           node_count, plain, record, rows, shape, shapes_from, sub, variant)
from tests.test_why import few_seconds_and_no_depth

# The bound that keeps the rows of either, by the sort of rows, and the other one.
KEEPS_ALL = {RECORD: meet, SUM: join}
KEEPS_SHARED = {RECORD: join, SUM: meet}
SORTS = {RECORD: "record", SUM: "sum"}


def row(labels, node):
    return flat([[k, node] for k in labels])


class Refusals(unittest.TestCase):
    def refused(self, calls, call, number):
        """Refused with this number, and afterwards all is as it was."""
        before = [*calls, sub(0, 0)]
        after = [*calls, call]
        self.assertEqual(ask_last(*after), [number], call)
        self.assertEqual(node_count(after), node_count(before))
        self.assertEqual(shapes_from(after, 0), shapes_from(before, 0))

    def both_ways(self, calls, a, b, number):
        for bound in (join, meet):
            self.refused(calls, bound(a, b), number)
            self.refused(calls, bound(b, a), number)


class InTheirOrder(Refusals):
    def test_no_node(self):
        for bound in (join, meet):
            self.assertEqual(ask(bound(0, 0), new()), [[-1], [0, 0]])
        calls = [new(), plain(0, ANY)]
        for x in (1, 2, 64, BIG):
            self.both_ways(calls, 0, x, -1)
            self.both_ways(calls, x, x, -1)

    def test_not_whole(self):
        calls = [*made(6), plain(0, ANY), plain(1, NONE), record(3, 5, 2), fn(4, 0, 3), fn(5, 3, 0)]
        for x in range(6):
            for y in (2, 3, 4, 5):
                self.both_ways(calls, x, y, -4)

    def test_whole_once_the_last_is_defined(self):
        calls = [*made(3), record(0, 1, 1), variant(1, 1, 2), join(0, 0), plain(2, ANY), join(0, 0)]
        self.assertEqual(ask(*calls)[-3:], [[-4], [0], [0, 3]])

    def test_an_undefined_node_elsewhere_is_no_matter(self):
        calls = [*made(3), record(0, 1, 0), record(1, 2, 2), join(0, 0), meet(0, 0)]
        self.assertEqual(ask(*calls)[-2:], [[0, 3], [0, 4]])

    def test_no_node_comes_ahead_of_not_whole(self):
        self.both_ways([new()], 0, 1, -1)
        self.both_ways([new(), record(0, 1, 0)], 0, 1, -1)

    def test_no_node_comes_ahead_of_no_room(self):
        self.both_ways([*made(64), plain(0, ANY)], 0, 64, -1)

    def test_not_whole_comes_ahead_of_too_wide(self):
        for told, bound in KEEPS_ALL.items():
            calls = [*made(3), rows(0, told, *row(range(8), 2)), rows(1, told, 8, 2)]
            self.refused(calls, bound(0, 1), -4)
            self.assertEqual(ask_last(*calls, plain(2, ANY), bound(0, 1)), [-6])

    def test_not_whole_comes_ahead_of_no_room(self):
        self.both_ways([*made(64), plain(0, ANY)], 0, 63, -4)
        self.both_ways([*made(64), record(0, 1, 63)], 0, 0, -4)

    def test_too_wide_comes_ahead_of_no_room(self):
        for told, bound in KEEPS_ALL.items():
            for nodes in (62, 63, 64):
                calls = [*made(nodes), plain(2, ANY), rows(0, told, *row(range(8), 2)), rows(1, told, *row([0, 8], 2))]
                self.refused(calls, bound(0, 1), -6)
                self.refused(calls, bound(1, 0), -6)


class TooWide(Refusals):
    def test_eight_rows_and_nine(self):
        for told, bound in KEEPS_ALL.items():
            for first in range(9):
                calls = [*made(3), plain(0, ANY), rows(1, told, *row(range(first), 0))]
                eight = [*calls, rows(2, told, *row(range(first, 8), 0))]
                self.assertEqual(ask_last(*eight, bound(1, 2)), [0, 3])
                self.assertEqual(shapes_from([*eight, bound(1, 2)], 3), [(SORTS[told], dict.fromkeys(range(8), 0))])
                if first > 0:
                    nine = [*calls, rows(2, told, *row(range(first, 9), 0))]
                    self.refused(nine, bound(1, 2), -6)
                    self.refused(nine, bound(2, 1), -6)

    def test_labels_of_both_count_once(self):
        for told, bound in KEEPS_ALL.items():
            calls = [*made(5), plain(0, ANY), rows(1, told, *row(range(10, 18), 0)),
                     rows(2, told, *row(range(11, 18), 0)), rows(3, told, *row(range(11, 19), 0)),
                     rows(4, told, *row(range(17, 9, -1), 0))]
            for a, b in ((1, 1), (1, 2), (2, 1), (2, 3), (1, 4), (4, 2)):
                self.assertEqual(ask_last(*calls, bound(a, b)), [0, 5])
            for a, b in ((1, 3), (3, 1), (3, 4)):
                self.refused(calls, bound(a, b), -6)

    def test_sixteen_rows(self):
        for told, bound in KEEPS_ALL.items():
            calls = [*made(3), plain(0, ANY), rows(1, told, *row(range(8), 0)), rows(2, told, *row(range(8, 16), 0))]
            self.refused(calls, bound(1, 2), -6)

    def test_the_bound_that_keeps_what_both_have_is_never_too_wide(self):
        for told, bound in KEEPS_SHARED.items():
            calls = [*made(3), plain(0, ANY), rows(1, told, *row(range(8), 0)), rows(2, told, *row(range(7, 15), 0))]
            self.assertEqual(shapes_from([*calls, bound(1, 2)], 3), [(SORTS[told], {7: 4}), ("any",)])

    def test_other_sorts_and_copies_are_never_too_wide(self):
        calls = [*made(5), plain(0, ANY), plain(1, NONE), record(2, *row(range(8), 0)),
                 variant(3, *row(range(8, 16), 0)), fn(4, 2, 3)]
        for a in range(5):
            for b in range(5):
                for bound in (join, meet):
                    self.assertEqual(ask_last(*calls, bound(a, b)), [0, 5])

    def test_a_record_and_a_sum_that_are_wide_together_are_no_rows(self):
        calls = [*made(3), plain(0, ANY), record(1, *row(range(8), 0)), variant(2, *row(range(8, 16), 0))]
        self.assertEqual(shapes_from([*calls, join(1, 2), meet(1, 2)], 3), [("any",), ("none",)])

    def test_within_a_function(self):
        """Two records whose greatest below is too wide: within an argument, that is asked by join."""
        calls = [*made(5), plain(0, ANY), record(1, *row(range(8), 0)), record(2, 8, 0)]
        arguments = [*calls, fn(3, 1, 0), fn(4, 2, 0)]
        self.refused(arguments, join(3, 4), -6)
        self.assertEqual(ask_last(*arguments, meet(3, 4)), [0, 5])
        results = [*calls, fn(3, 0, 1), fn(4, 0, 2)]
        self.refused(results, meet(3, 4), -6)
        self.assertEqual(ask_last(*results, join(3, 4)), [0, 5])

    def test_a_part_that_is_not_in_the_bound_is_not_looked_at(self):
        """The pair that would be too wide stands at a label that only one has, or below none, or above any."""
        for told, bound in KEEPS_ALL.items():
            ends = [*made(7), plain(0, ANY), plain(6, NONE), rows(1, told, *row(range(8), 0)), rows(2, told, 8, 0)]
            self.assertEqual(ask_last(*ends, rows(3, told, 1, 1), rows(4, told, 2, 2), bound(3, 4)), [0, 7])
            for x in (0, 6):
                self.assertEqual(ask_last(*ends, rows(3, told, 1, 1), rows(4, told, 1, x), bound(3, 4)), [0, 7])

    def test_far_within(self):
        """Two chains; at their ends are two rows that are too wide together."""
        for told, bound in KEEPS_ALL.items():
            for length in (1, 10, 19):
                calls = [*made(2 * length + 3), plain(0, ANY), rows(1, told, *row(range(8), 0))]
                for at in range(length):
                    calls += [rows(3 + 2 * at, told, 5, 1 + 2 * at), rows(4 + 2 * at, told, 5, 2 + 2 * at)]
                last = 2 * length + 1
                wide, narrow = rows(2, told, *row(range(1, 9), 0)), rows(2, told, *row(range(1, 8), 0))
                self.assertEqual(ask_after([*calls, wide], [bound(last, last + 1), new()]), [[-6], [0, last + 2]])
                self.assertEqual(ask_after([*calls, narrow], [bound(last, last + 1), new()]),
                                 [[0, last + 2], [0, last + 2 + length + 2]])


class NoRoom(Refusals):
    def chain(self, length, nodes):
        """A chain of records whose bound with itself has as many pairs as nodes; some nodes are left open."""
        return [*made(nodes), *[record(x, 1, x + 1) for x in range(length - 1)], plain(length - 1, BASE, 1)]

    def test_just_64_nodes_are_made_and_one_more_is_refused(self):
        for bound in (join, meet):
            self.assertEqual(ask_after(self.chain(32, 32), [bound(0, 0), new(), bound(31, 31)]), [[0, 32], [-2], [-2]])
            self.refused(self.chain(32, 33), bound(0, 0), -2)
            self.assertEqual(ask_after(self.chain(32, 33), [bound(1, 1), new()]), [[0, 33], [-2]])
            self.refused(self.chain(33, 33), bound(0, 0), -2)
            self.refused(self.chain(64, 64), bound(0, 0), -2)

    def test_all_64_nodes_stand_as_told(self):
        calls = [*self.chain(32, 32), join(0, 0)]
        self.assertEqual([shape(calls, x) for x in range(32, 64)],
                         [*[("record", {1: x + 1}) for x in range(32, 63)], ("base", 1)])

    def test_a_single_node(self):
        for bound in (join, meet):
            for x in (0, 1, 2):
                calls = [plain(0, BASE, 1), plain(1, ANY), plain(2, NONE)]
                self.assertEqual(ask_after([*made(63), *calls], [bound(x, 0), bound(x, 0)]), [[0, 63], [-2]])
                self.refused([*made(64), *calls], bound(x, 0), -2)

    def test_the_next_new_answers_what_it_would_have(self):
        for bound in (join, meet):
            calls = [*made(60), *[record(x, 1, x + 1) for x in range(5)], plain(5, ANY)]
            asked = [bound(0, 0), bound(1, 1), new(), bound(3, 3), new(), new()]
            self.assertEqual(ask_after(calls, asked), [[-2], [-2], [0, 60], [0, 61], [-2], [-2]])

    def test_until_nothing_is_left(self):
        calls = [*made(2), plain(0, BASE, 1), record(1, 1, 0, 2, 1)]
        bounds = [join(1, 1) if number % 2 == 0 else meet(1, 1) for number in range(40)]
        self.assertEqual(ask_after(calls, bounds), [[0, 2 + 2 * at] for at in range(31)] + [[-2]] * 9)


def cycles_to(told, first, second, ends):
    """Two cycles that come to the two ends together only behind every other pair; the ends' rows are of node 63."""
    calls = [*made(64), plain(63, ANY), rows(61, told, *row(ends[0], 63)), rows(62, told, *row(ends[1], 63))]
    for at in range(first):
        calls.append(rows(at, told, 1, (at + 1) % first, *([2, 61] if at == first - 1 else [])))
    for at in range(second):
        calls.append(rows(first + at, told, 1, first + (at + 1) % second, *([2, 62] if at == second - 1 else [])))
    return calls


def turning_functions():
    """64 functions from whose first two every pair is come to, least and greatest."""
    return [*made(64), *[fn(x, (x + 1) % 64, max(x, 1)) for x in range(64)]]


def pairs_of_turning_functions():
    pairs = [(True, 0, 1)]
    seen = set(pairs)
    for least, x, y in pairs:
        for pair in ((not least, (x + 1) % 64, (y + 1) % 64), (least, max(x, 1), max(y, 1))):
            if pair not in seen:
                seen.add(pair)
                pairs.append(pair)
    return pairs


class ManyPairs(Refusals):
    def test_too_wide_behind_hundreds_of_pairs(self):
        for told, bound in KEEPS_ALL.items():
            with few_seconds_and_no_depth():
                wide = ask_last(*cycles_to(told, 30, 31, (range(8), range(4, 9))), bound(0, 30))
                narrow = ask_last(*cycles_to(told, 30, 31, (range(8), range(4, 8))), bound(0, 30))
            self.assertEqual((wide, narrow), ([-6], [-2]))

    def test_as_many_pairs_as_there_can_be(self):
        self.assertEqual(len(pairs_of_turning_functions()), 2 * 64 * 64)
        calls = turning_functions()
        asked = [(join, meet)[x % 2](x % 64, (x + 1) % 64) for x in range(172)]
        self.assertEqual(len(calls) + len(asked), 300)
        with few_seconds_and_no_depth():
            self.assertEqual(ask_after(calls, asked), [[-2]] * 172)

    def test_as_many_rows_as_there_can_be(self):
        for told in (RECORD, SUM):
            calls = made(64)
            for x in range(64):
                calls.append(rows(x, told, *flat([[k, (x * x * 3 + x * k + k * 7) % 64] for k in range(8)])))
            asked = [(join, meet)[x % 2](x % 64, (x * 5 + 1) % 64) for x in range(172)]
            with few_seconds_and_no_depth():
                self.assertEqual(ask_after(calls, asked), [[-2]] * 172)

    def test_a_long_chain_takes_no_deep_recursion(self):
        calls = [*made(32), *[fn(x, x + 1, x + 1) for x in range(15)], plain(15, ANY), plain(16, ANY)]
        with few_seconds_and_no_depth():
            answered = ask_after(calls, [join(0, 0), new()])
        self.assertEqual(answered, [[0, 32], [0, 63]])
