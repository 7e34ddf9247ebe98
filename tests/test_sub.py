"""sub, and promise 1: a subtype is told just where no path leads to what's wrong."""

import sys
import unittest

from tests.helpers import (ANY, BASE, BIG, NONE, RECORD, SUM, ask, ask_last, fn, made, new, plain, record, rows, sub,
                           variant)

# Nodes 0 to 3 of most tests here: two base types, any and none.
ONE, TWO, TOP, BOTTOM = 0, 1, 2, 3
START = [*made(12), plain(ONE, BASE, 1), plain(TWO, BASE, 2), plain(TOP, ANY), plain(BOTTOM, NONE)]


def depth():
    frame, count = sys._getframe(), 0
    while frame is not None:
        frame, count = frame.f_back, count + 1
    return count


class Sub(unittest.TestCase):
    def told(self, calls, a, b, expected):
        self.assertEqual(ask_last(*START, *calls, sub(a, b)), [0, expected], (calls, a, b))

    def both_ways(self, calls, a, b, expected, back):
        self.told(calls, a, b, expected)
        self.told(calls, b, a, back)

    def test_base_types(self):
        self.both_ways([plain(4, BASE, 1)], ONE, 4, 1, 1)
        self.both_ways([], ONE, TWO, 0, 0)
        self.told([], ONE, ONE, 1)
        self.both_ways([plain(4, BASE, 0), plain(5, BASE, 255)], 4, 5, 0, 0)

    def test_any_above_all_and_none_below_all(self):
        others = [fn(4, ONE, TWO), record(5, 1, ONE), record(6), variant(7, 1, ONE), variant(8)]
        for x in (ONE, TWO, 4, 5, 6, 7, 8):
            self.both_ways(others, x, TOP, 1, 0)
            self.both_ways(others, BOTTOM, x, 1, 0)

    def test_any_and_none_themselves(self):
        self.told([], BOTTOM, BOTTOM, 1)
        self.told([], TOP, TOP, 1)
        self.both_ways([], BOTTOM, TOP, 1, 0)
        self.both_ways([plain(4, ANY), plain(5, NONE)], TOP, 4, 1, 1)
        self.both_ways([plain(4, ANY), plain(5, NONE)], BOTTOM, 5, 1, 1)

    def test_function_results_go_the_same_way(self):
        self.both_ways([fn(4, ONE, ONE), fn(5, ONE, TOP)], 4, 5, 1, 0)
        self.both_ways([fn(4, ONE, BOTTOM), fn(5, ONE, TWO)], 4, 5, 1, 0)
        self.both_ways([fn(4, ONE, ONE), fn(5, ONE, TWO)], 4, 5, 0, 0)

    def test_function_arguments_go_the_other_way(self):
        self.both_ways([fn(4, TOP, ONE), fn(5, TWO, ONE)], 4, 5, 1, 0)
        self.both_ways([fn(4, TWO, ONE), fn(5, BOTTOM, ONE)], 4, 5, 1, 0)
        self.both_ways([fn(4, ONE, ONE), fn(5, TWO, ONE)], 4, 5, 0, 0)

    def test_an_argument_of_an_argument_goes_the_same_way_again(self):
        self.both_ways([fn(4, ONE, ONE), fn(5, TOP, ONE), fn(6, 4, ONE), fn(7, 5, ONE)], 6, 7, 1, 0)

    def test_functions_argument_and_result_both(self):
        self.both_ways([fn(4, TOP, BOTTOM), fn(5, ONE, TWO)], 4, 5, 1, 0)
        self.both_ways([fn(4, TOP, TOP), fn(5, ONE, TWO)], 4, 5, 0, 0)

    def test_records_with_fewer_labels_are_above(self):
        self.both_ways([record(4, 1, ONE, 2, TWO), record(5, 2, TWO)], 4, 5, 1, 0)
        self.both_ways([record(4, 1, ONE), record(5)], 4, 5, 1, 0)
        self.both_ways([record(4, 1, ONE), record(5, 2, ONE)], 4, 5, 0, 0)
        self.both_ways([record(4), record(5)], 4, 5, 1, 1)
        self.both_ways([record(4, 0, ONE), record(5, 255, ONE)], 4, 5, 0, 0)

    def test_records_parts_are_compared(self):
        self.both_ways([record(4, 1, ONE), record(5, 1, TOP)], 4, 5, 1, 0)
        self.both_ways([record(4, 1, ONE), record(5, 1, TWO)], 4, 5, 0, 0)
        self.both_ways([record(4, 1, ONE, 3, TWO), record(5, 1, TOP)], 4, 5, 1, 0)
        self.both_ways([record(4, 1, TOP, 3, TWO), record(5, 1, ONE)], 4, 5, 0, 0)

    def test_sums_with_more_tags_are_above(self):
        self.both_ways([variant(4, 2, TWO), variant(5, 1, ONE, 2, TWO)], 4, 5, 1, 0)
        self.both_ways([variant(4), variant(5, 1, ONE)], 4, 5, 1, 0)
        self.both_ways([variant(4, 1, ONE), variant(5, 2, ONE)], 4, 5, 0, 0)
        self.both_ways([variant(4), variant(5)], 4, 5, 1, 1)
        self.both_ways([variant(4, 0, ONE), variant(5, 255, ONE)], 4, 5, 0, 0)

    def test_sums_parts_are_compared(self):
        self.both_ways([variant(4, 1, ONE), variant(5, 1, TOP)], 4, 5, 1, 0)
        self.both_ways([variant(4, 1, ONE), variant(5, 1, TWO)], 4, 5, 0, 0)
        self.both_ways([variant(4, 1, BOTTOM), variant(5, 1, TWO, 7, TWO)], 4, 5, 1, 0)
        self.both_ways([variant(4, 1, TOP), variant(5, 1, TWO, 7, TWO)], 4, 5, 0, 0)

    def test_different_kinds(self):
        calls = [fn(4, ONE, ONE), record(5), variant(6), record(7, 1, ONE), variant(8, 1, ONE)]
        for a, b in ((ONE, 4), (ONE, 5), (ONE, 6), (4, 5), (4, 6), (4, 7), (4, 8), (5, 6), (7, 8), (5, 8), (7, 6)):
            self.both_ways(calls, a, b, 0, 0)

    def test_a_node_is_below_itself(self):
        calls = [fn(4, 5, 6), record(5, 1, 6, 2, 4), variant(6, 1, 4, 9, 5, 7, 6)]
        for x in range(7):
            self.told(calls, x, x, 1)

    def test_what_is_wrong_far_within(self):
        calls = [record(4, 1, 5), record(5, 1, 6), record(6, 1, ONE), record(7, 1, 8), record(8, 1, 9)]
        self.both_ways([*calls, record(9, 1, TWO)], 4, 7, 0, 0)
        self.both_ways([*calls, record(9, 1, TOP)], 4, 7, 1, 0)

    def test_a_part_that_only_one_has_is_not_looked_at(self):
        self.both_ways([record(4, 1, TOP, 2, ONE), record(5, 2, ONE)], 4, 5, 1, 0)
        self.both_ways([variant(4, 2, ONE), variant(5, 1, BOTTOM, 2, ONE)], 4, 5, 1, 0)

    def test_parts_of_what_is_below_any_or_above_none_are_not_looked_at(self):
        self.told([record(4, 1, ONE), record(5, 1, 4), record(6, 1, TOP)], 5, 6, 1)
        self.told([record(4, 1, ONE), record(5, 1, 4), record(6, 1, BOTTOM)], 6, 5, 1)


class Back(unittest.TestCase):
    """Nodes that lead back to themselves."""

    def told(self, calls, a, b, expected):
        self.assertEqual(ask_last(*START, *calls, sub(a, b)), [0, expected], (calls, a, b))

    def test_one_node_each(self):
        self.told([record(4, 1, 4), record(5, 1, 5)], 4, 5, 1)
        self.told([variant(4, 1, 4), variant(5, 1, 5)], 4, 5, 1)
        self.told([fn(4, 4, 4), fn(5, 5, 5)], 4, 5, 1)
        self.told([fn(4, 4, ONE), fn(5, 5, TWO)], 4, 5, 0)
        self.told([record(4, 1, 4, 2, ONE), record(5, 1, 5)], 4, 5, 1)
        self.told([record(4, 1, 4, 2, ONE), record(5, 1, 5)], 5, 4, 0)

    def test_lists_of_parts_one_below_the_other(self):
        calls = [variant(4, 0, 5, 1, 6), record(5), record(6, 0, ONE, 1, 4),
                 variant(7, 0, 8, 1, 9), record(8), record(9, 0, TOP, 1, 7)]
        self.told(calls, 4, 7, 1)
        self.told(calls, 7, 4, 0)

    def test_functions_whose_argument_leads_back(self):
        self.told([fn(4, 4, ONE), fn(5, 5, ONE)], 4, 5, 1)
        self.told([fn(4, 4, ONE), fn(5, 5, TOP)], 4, 5, 0)
        self.told([fn(4, ONE, 4), fn(5, BOTTOM, 5)], 4, 5, 1)
        self.told([fn(4, ONE, 4), fn(5, BOTTOM, 5)], 5, 4, 0)

    def test_several_together(self):
        calls = [record(4, 1, 5, 2, 6), fn(5, 6, 4), variant(6, 1, 4, 2, 5),
                 record(7, 1, 8, 2, 9), fn(8, 9, 7), variant(9, 1, 7, 2, 8)]
        for a, b in ((4, 7), (5, 8), (6, 9)):
            self.told(calls, a, b, 1)
            self.told(calls, b, a, 1)
        self.told(calls, 4, 8, 0)

    def test_cycles_of_different_lengths_that_say_the_same(self):
        calls = [record(4, 1, 5), record(5, 1, 4), record(6, 1, 7), record(7, 1, 8), record(8, 1, 6), record(9, 1, 9)]
        for a in range(4, 10):
            for b in range(4, 10):
                self.told(calls, a, b, 1)

    def test_cycles_of_different_lengths_through_arguments(self):
        calls = [fn(4, 5, ONE), fn(5, 4, ONE), fn(6, 7, ONE), fn(7, 8, ONE), fn(8, 6, ONE)]
        for a in range(4, 9):
            for b in range(4, 9):
                self.told(calls, a, b, 1)

    def test_cycles_of_different_lengths_that_differ_once(self):
        calls = [record(4, 1, 5, 2, ONE), record(5, 1, 4, 2, ONE),
                 record(6, 1, 7, 2, ONE), record(7, 1, 8, 2, ONE), record(8, 1, 6, 2, TOP)]
        self.told(calls, 4, 6, 1)
        self.told(calls, 6, 4, 0)

    def test_what_is_wrong_lies_behind_a_cycle(self):
        calls = [record(4, 1, 5), record(5, 1, 4, 2, ONE), record(6, 1, 7), record(7, 1, 6, 2, TWO)]
        self.told(calls, 4, 6, 0)

    def test_a_cycle_that_was_found_right_hides_nothing(self):
        """The same pair is come to twice; what's wrong beside it must still be found, whichever is asked first."""
        calls = [record(4, 1, 4, 2, 5), record(5, 1, 4, 2, ONE), record(6, 1, 6, 2, 7), record(7, 1, 6, 2, TWO)]
        self.assertEqual(ask(*START, *calls, sub(4, 4), sub(4, 6), sub(5, 7), sub(4, 6), sub(6, 6))[-5:],
                         [[0, 1], [0, 0], [0, 0], [0, 0], [0, 1]])


class SubRefused(unittest.TestCase):
    def test_no_node(self):
        self.assertEqual(ask(sub(0, 0), new(), plain(0, ANY), sub(0, 1), sub(1, 0), sub(BIG, 0), sub(0, BIG)),
                         [[-1], [0, 0], [0], [-1], [-1], [-1], [-1]])

    def test_no_node_comes_ahead_of_not_whole(self):
        self.assertEqual(ask(new(), sub(0, 1), sub(1, 0), sub(0, 0)), [[0, 0], [-1], [-1], [-4]])

    def test_either_is_not_whole(self):
        self.assertEqual(ask(*made(2), plain(0, ANY), sub(0, 1), sub(1, 0), sub(0, 0), sub(1, 1))[3:],
                         [[-4], [-4], [0, 1], [-4]])

    def test_not_whole_even_where_the_answer_would_be_clear(self):
        calls = [*made(4), plain(0, ANY), plain(1, NONE), record(2, 5, 3)]
        self.assertEqual(ask(*calls, sub(2, 0), sub(1, 2), sub(2, 2), sub(0, 2))[-4:], [[-4]] * 4)

    def test_an_undefined_node_far_within(self):
        for kind in (RECORD, SUM):
            chain = [rows(x, kind, 9, x + 1, 3, x + 1) for x in range(62)]
            calls = [*made(64), *chain, rows(62, kind, 1, 63), sub(0, 0), sub(0, 62), plain(63, ANY), sub(0, 0)]
            self.assertEqual(ask(*calls)[-4:], [[-4], [-4], [0], [0, 1]])

    def test_an_undefined_node_behind_an_argument_or_a_result(self):
        for call in (fn(0, 1, 2), fn(0, 2, 1)):
            self.assertEqual(ask(*made(3), call, plain(2, ANY), sub(0, 2), sub(2, 0))[-2:], [[-4], [-4]])

    def test_an_undefined_node_behind_a_cycle(self):
        calls = [*made(4), record(0, 1, 1, 2, 0), fn(1, 0, 2), variant(2, 1, 0, 2, 1, 3, 2, 4, 3)]
        self.assertEqual(ask(*calls, sub(0, 0), sub(1, 2), plain(3, NONE), sub(0, 0), sub(1, 2))[-5:],
                         [[-4], [-4], [0], [0, 1], [0, 0]])

    def test_an_undefined_node_elsewhere_is_no_matter(self):
        self.assertEqual(ask_last(*made(3), record(0, 1, 0), record(1, 2, 2), sub(0, 0)), [0, 1])

    def test_a_long_chain_takes_no_deep_recursion(self):
        chain = [fn(x, x + 1, x + 1) for x in range(63)]
        calls = [*made(64), *chain, sub(0, 1), plain(63, ANY), sub(0, 0), sub(0, 1)]
        before = sys.getrecursionlimit()
        try:
            sys.setrecursionlimit(depth() + 40)
            answered = ask(*calls)
        finally:
            sys.setrecursionlimit(before)
        self.assertEqual(answered[-4:], [[-4], [0], [0, 1], [0, 0]])
