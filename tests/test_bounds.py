"""join and meet: what a bound is made of, and the order and the numbers of the new nodes."""

import unittest

from tests.helpers import (BASE, NONE, RECORD, SUM, ask, ask_last, fn, join, kind, made, meet, new, node_count, part,
                           plain, record, rows, shape, shapes_from, sub, variant, why)
from tests.test_sub import BOTTOM, ONE, START, TOP, TWO

# The first new node's number, as START makes 12 nodes: the first four defined, the others open.
NEXT = 12

ANYTHING, NOTHING = ("any",), ("none",)
BASE_1, BASE_2 = ("base", 1), ("base", 2)


class Bounds(unittest.TestCase):
    def makes(self, calls, call, *shapes):
        """That the call makes just these nodes, and answers the first one's number."""
        calls = [*START, *calls]
        self.assertEqual(ask_last(*calls, call), [0, NEXT])
        self.assertEqual(shapes_from([*calls, call], NEXT), list(shapes), (calls, call))


class EveryTwoSorts(Bounds):
    """Nodes: base 1, another node of base 1, base 2, any, none, a function, a record, a sum; in this order."""

    CALLS = [plain(4, BASE, 1), fn(5, ONE, TWO), record(6, 3, ONE), variant(7, 3, TWO)]
    NODES = (ONE, 4, TWO, TOP, BOTTOM, 5, 6, 7)

    # What each letter stands for; F, R and S are copies, f, r and s are made of pairs.
    LETTERS = {
        "1": [BASE_1], "2": [BASE_2], "A": [ANYTHING], "N": [NOTHING],
        "F": [("fn", ONE, TWO)], "R": [("record", {3: ONE})], "S": [("sum", {3: TWO})],
        "f": [("fn", 13, 14), BASE_1, BASE_2], "r": [("record", {3: 13}), BASE_1], "s": [("sum", {3: 13}), BASE_2],
    }

    JOINS = ("11AA1AAA",
             "11AA1AAA",
             "AA2A2AAA",
             "AAAAAAAA",
             "112ANFRS",
             "AAAAFfAA",
             "AAAARArA",
             "AAAASAAs")

    MEETS = ("11N1NNNN",
             "11N1NNNN",
             "NN22NNNN",
             "112ANFRS",
             "NNNNNNNN",
             "NNNFNfNN",
             "NNNRNNrN",
             "NNNSNNNs")

    def table(self, call, table):
        for a, row in zip(self.NODES, table):
            for b, letter in zip(self.NODES, row):
                with self.subTest(a=a, b=b):
                    self.makes(self.CALLS, call(a, b), *self.LETTERS[letter])

    def test_join(self):
        self.table(join, self.JOINS)

    def test_meet(self):
        self.table(meet, self.MEETS)

    def test_bases_at_the_edges(self):
        calls = [plain(4, BASE, 0), plain(5, BASE, 255), plain(6, BASE, 0)]
        for call, other in ((join, ANYTHING), (meet, NOTHING)):
            self.makes(calls, call(4, 6), ("base", 0))
            self.makes(calls, call(4, 5), other)
            self.makes(calls, call(5, 5), ("base", 255))

    def test_rows_that_are_not_there(self):
        calls = [record(4), variant(5), record(6, 1, ONE), variant(7, 1, ONE)]
        self.makes(calls, join(4, 4), ("record", {}))
        self.makes(calls, meet(4, 4), ("record", {}))
        self.makes(calls, join(5, 5), ("sum", {}))
        self.makes(calls, meet(5, 5), ("sum", {}))
        self.makes(calls, join(4, 6), ("record", {}))
        self.makes(calls, meet(4, 6), ("record", {1: ONE}))
        self.makes(calls, join(5, 7), ("sum", {1: ONE}))
        self.makes(calls, meet(5, 7), ("sum", {}))
        self.makes(calls, join(4, 5), ANYTHING)
        self.makes(calls, meet(4, 5), NOTHING)


class Copies(Bounds):
    """A copy is defined just as the old node: it names the very nodes that that one names."""

    CALLS = [fn(4, 4, 5), record(5, 200, 4, 7, 5, 9, ONE), variant(6, 8, 6, 1, 4)]
    SHAPES = {4: ("fn", 4, 5), 5: ("record", {7: 5, 9: ONE, 200: 4}), 6: ("sum", {1: 4, 8: 6}),
              ONE: BASE_1, TOP: ANYTHING, BOTTOM: NOTHING}

    def test_of_a_node_above_none(self):
        for x, copied in self.SHAPES.items():
            self.makes(self.CALLS, join(BOTTOM, x), copied)
            self.makes(self.CALLS, join(x, BOTTOM), copied)

    def test_of_a_node_below_any(self):
        for x, copied in self.SHAPES.items():
            self.makes(self.CALLS, meet(TOP, x), copied)
            self.makes(self.CALLS, meet(x, TOP), copied)

    def test_no_copy_of_what_is_below_none_or_above_any(self):
        for x in self.SHAPES:
            for a, b in ((x, TOP), (TOP, x)):
                self.makes(self.CALLS, join(a, b), ANYTHING)
            for a, b in ((x, BOTTOM), (BOTTOM, x)):
                self.makes(self.CALLS, meet(a, b), NOTHING)

    def test_far_within(self):
        calls = [*self.CALLS, record(7, 1, BOTTOM, 2, TOP), record(8, 1, 4, 2, 5)]
        self.makes(calls, join(7, 8), ("record", {1: 13, 2: 14}), self.SHAPES[4], ANYTHING)
        self.makes(calls, meet(8, 7), ("record", {1: 13, 2: 14}), NOTHING, self.SHAPES[5])

    def test_a_copy_stands_on_its_own(self):
        calls = [*START, *self.CALLS, join(BOTTOM, 5), plain(12, BASE, 1), record(12, 1, ONE)]
        self.assertEqual(ask(*calls)[-2:], [[-3], [-3]])
        self.assertEqual(shapes_from(calls, 12), [self.SHAPES[5]])
        self.assertEqual(shape(calls, 5), self.SHAPES[5])


class Functions(Bounds):
    CALLS = [fn(4, ONE, ONE), fn(5, TWO, TWO), fn(6, TOP, BOTTOM), fn(7, BOTTOM, TOP)]

    def test_least_above(self):
        """The argument is the greatest below, the result the least above."""
        self.makes(self.CALLS, join(4, 5), ("fn", 13, 14), NOTHING, ANYTHING)
        self.makes(self.CALLS, join(4, 6), ("fn", 13, 14), BASE_1, BASE_1)
        self.makes(self.CALLS, join(6, 5), ("fn", 13, 14), BASE_2, BASE_2)
        self.makes(self.CALLS, join(4, 7), ("fn", 13, 14), NOTHING, ANYTHING)
        self.makes(self.CALLS, join(4, 4), ("fn", 13, 14), BASE_1, BASE_1)

    def test_greatest_below(self):
        """The argument is the least above, the result the greatest below."""
        self.makes(self.CALLS, meet(4, 5), ("fn", 13, 14), ANYTHING, NOTHING)
        self.makes(self.CALLS, meet(4, 6), ("fn", 13, 14), ANYTHING, NOTHING)
        self.makes(self.CALLS, meet(4, 7), ("fn", 13, 14), BASE_1, BASE_1)
        self.makes(self.CALLS, meet(7, 5), ("fn", 13, 14), BASE_2, BASE_2)
        self.makes(self.CALLS, meet(5, 5), ("fn", 13, 14), BASE_2, BASE_2)

    def test_an_argument_of_an_argument_changes_back(self):
        calls = [*self.CALLS, fn(8, 4, ONE), fn(9, 5, ONE)]
        self.makes(calls, join(8, 9), ("fn", 13, 14), ("fn", 15, 16), BASE_1, ANYTHING, NOTHING)
        self.makes(calls, meet(8, 9), ("fn", 13, 14), ("fn", 15, 16), BASE_1, NOTHING, ANYTHING)

    def test_the_argument_of_a_result_and_the_result_of_an_argument(self):
        calls = [*self.CALLS, fn(8, 4, 4), fn(9, 5, 5)]
        self.makes(calls, join(8, 9), ("fn", 13, 14), ("fn", 15, 16), ("fn", 16, 15), ANYTHING, NOTHING)
        self.makes(calls, meet(8, 9), ("fn", 13, 14), ("fn", 15, 16), ("fn", 16, 15), NOTHING, ANYTHING)

    def test_within_rows_nothing_changes(self):
        for told, sort in ((RECORD, "record"), (SUM, "sum")):
            calls = [rows(4, told, 0, ONE, 1, ONE), rows(5, told, 0, TWO, 1, ONE)]
            self.makes(calls, join(4, 5), (sort, {0: 13, 1: 14}), ANYTHING, BASE_1)
            self.makes(calls, meet(4, 5), (sort, {0: 13, 1: 14}), NOTHING, BASE_1)


class Rows(Bounds):
    CALLS = [record(4, 1, ONE, 2, TWO, 5, 6), record(5, 7, 4, 2, TOP, 0, TWO, 1, ONE), record(6, 3, TOP),
             variant(7, 1, ONE, 2, TWO, 5, 6), variant(8, 7, 4, 2, TOP, 0, TWO, 1, ONE)]

    def test_records_least_above(self):
        self.makes(self.CALLS, join(4, 5), ("record", {1: 13, 2: 14}), BASE_1, ANYTHING)
        self.makes(self.CALLS, join(5, 4), ("record", {1: 13, 2: 14}), BASE_1, ANYTHING)
        self.makes(self.CALLS, join(5, 6), ("record", {}))

    def test_records_greatest_below(self):
        """A part that only one has is that part itself."""
        both = ("record", {0: TWO, 1: 13, 2: 14, 5: 6, 7: 4})
        self.makes(self.CALLS, meet(4, 5), both, BASE_1, BASE_2)
        self.makes(self.CALLS, meet(5, 4), both, BASE_1, BASE_2)
        self.makes(self.CALLS, meet(6, 4), ("record", {1: ONE, 2: TWO, 3: TOP, 5: 6}))

    def test_sums_least_above(self):
        """A part that only one has is that part itself."""
        both = ("sum", {0: TWO, 1: 13, 2: 14, 5: 6, 7: 4})
        self.makes(self.CALLS, join(7, 8), both, BASE_1, ANYTHING)
        self.makes(self.CALLS, join(8, 7), both, BASE_1, ANYTHING)

    def test_sums_greatest_below(self):
        self.makes(self.CALLS, meet(7, 8), ("sum", {1: 13, 2: 14}), BASE_1, BASE_2)
        self.makes(self.CALLS, meet(8, 7), ("sum", {1: 13, 2: 14}), BASE_1, BASE_2)

    def test_no_label_in_common(self):
        calls = [record(4, 1, ONE), record(5, 2, ONE), variant(6, 1, ONE), variant(7, 2, ONE)]
        self.makes(calls, join(4, 5), ("record", {}))
        self.makes(calls, meet(4, 5), ("record", {1: ONE, 2: ONE}))
        self.makes(calls, join(6, 7), ("sum", {1: ONE, 2: ONE}))
        self.makes(calls, meet(6, 7), ("sum", {}))

    def test_the_first_and_the_last_label(self):
        calls = [record(4, 255, ONE, 0, TWO), record(5, 0, ONE, 255, ONE), variant(6, 255, ONE), variant(7, 0, ONE)]
        self.makes(calls, join(4, 5), ("record", {0: 13, 255: 14}), ANYTHING, BASE_1)
        self.makes(calls, join(6, 7), ("sum", {0: ONE, 255: ONE}))

    def test_paths_through_a_bound_go_by_rising_label(self):
        """The parts of both come from different nodes, and the path is still the first by its numbers."""
        calls = [*START, record(4, 5, ONE), record(5, 3, ONE), record(6, 4, ONE, 6, ONE), meet(4, 5), meet(12, 6),
                 record(7, 3, TWO, 4, TWO, 5, TWO, 6, TWO), record(8, 4, TWO, 5, TWO, 6, TWO), why(13, 7), why(13, 8)]
        self.assertEqual(ask(*calls)[-2:], [[0, 5], [0, 6]])
        calls = [*START, variant(4, 5, ONE), variant(5, 3, ONE), join(4, 5), variant(6, 3, TWO, 5, TWO), why(12, 6)]
        self.assertEqual(ask_last(*calls), [0, 5])


class Order(Bounds):
    def test_by_rising_label_not_by_the_order_in_which_rows_came(self):
        calls = [record(4, 9, ONE, 3, TWO, 100, 6), record(5, 100, 6, 9, ONE, 3, TWO), record(6)]
        self.makes(calls, join(4, 5), ("record", {3: 13, 9: 14, 100: 15}), BASE_2, BASE_1, ("record", {}))
        self.makes(calls, meet(5, 4), ("record", {3: 13, 9: 14, 100: 15}), BASE_2, BASE_1, ("record", {}))

    def test_all_of_the_first_ahead_of_what_they_are_made_of(self):
        """A record of a record and a base: the base's number comes ahead of what is within the inner record."""
        calls = [record(4, 1, 5, 2, 6), record(5, 7, ONE, 8, TWO), fn(6, ONE, TWO)]
        self.makes(calls, join(4, 4), ("record", {1: 13, 2: 14}), ("record", {7: 15, 8: 16}), ("fn", 17, 16),
                   BASE_1, BASE_2, BASE_1)
        self.makes(calls, meet(4, 4), ("record", {1: 13, 2: 14}), ("record", {7: 15, 8: 16}), ("fn", 17, 16),
                   BASE_1, BASE_2, BASE_1)

    def test_the_argument_ahead_of_the_result(self):
        calls = [fn(4, 5, 6), record(5, 1, ONE), variant(6, 1, TWO)]
        self.makes(calls, join(4, 4), ("fn", 13, 14), ("record", {1: 15}), ("sum", {1: 16}), BASE_1, BASE_2)

    def test_parts_that_only_one_has_take_no_number(self):
        calls = [record(4, 1, 5, 3, ONE, 5, 5), record(5, 1, ONE), record(6, 2, 5, 3, ONE, 4, 5)]
        self.makes(calls, meet(4, 6), ("record", {1: 5, 2: 5, 3: 13, 4: 5, 5: 5}), BASE_1)

    def test_a_pair_that_is_come_to_twice(self):
        calls = [record(4, 1, ONE, 2, ONE, 3, 5), record(5, 1, ONE)]
        self.makes(calls, join(4, 4), ("record", {1: 13, 2: 13, 3: 14}), BASE_1, ("record", {1: 13}))

    def test_alike_but_not_the_same_pair(self):
        """Another node of the same base makes another pair."""
        calls = [record(4, 1, ONE, 2, ONE), record(5, 1, ONE, 2, 6), plain(6, BASE, 1)]
        self.makes(calls, join(4, 5), ("record", {1: 13, 2: 14}), BASE_1, BASE_1)

    def test_a_pair_that_leads_back_to_itself(self):
        self.makes([record(4, 1, 4)], join(4, 4), ("record", {1: 12}))
        self.makes([variant(4, 1, 4)], meet(4, 4), ("sum", {1: 12}))
        calls = [record(4, 1, 4, 2, ONE), record(5, 1, 6, 2, TWO), record(6, 1, 5, 3, TWO)]
        self.makes(calls, join(4, 5), ("record", {1: 13, 2: 14}), ("record", {1: 12}), ANYTHING)
        self.makes(calls, meet(4, 5), ("record", {1: 13, 2: 14}), ("record", {1: 12, 2: ONE, 3: TWO}), NOTHING)

    def test_a_pair_both_ways_round_is_two_pairs(self):
        calls = [record(4, 1, 5), record(5, 1, 4)]
        self.makes(calls, join(4, 5), ("record", {1: 13}), ("record", {1: 12}))
        self.makes(calls, meet(5, 4), ("record", {1: 13}), ("record", {1: 12}))
        calls = [record(4, 1, ONE, 2, TWO), record(5, 1, TWO, 2, ONE)]
        self.makes(calls, join(4, 5), ("record", {1: 13, 2: 14}), ANYTHING, ANYTHING)

    def test_least_and_greatest_of_the_same_two_are_two_pairs(self):
        calls = [fn(4, 5, 5), record(5, 1, ONE), fn(6, 7, 7), record(7, 2, ONE)]
        self.makes(calls, join(4, 6), ("fn", 13, 14), ("record", {1: ONE, 2: ONE}), ("record", {}))
        self.makes(calls, meet(4, 6), ("fn", 13, 14), ("record", {}), ("record", {1: ONE, 2: ONE}))
        self.makes([fn(4, 4, ONE)], join(4, 4), ("fn", 13, 14), ("fn", 12, 15), BASE_1, BASE_1)
        self.makes([fn(4, 4, 4)], join(4, 4), ("fn", 13, 12), ("fn", 12, 13))
        self.makes([fn(4, 4, 4)], meet(4, 4), ("fn", 13, 12), ("fn", 12, 13))

    def test_functions_that_lead_back_both_ways_round(self):
        """All four of least and greatest, one way and the other, come up."""
        calls = [fn(4, 5, 4), fn(5, 4, 5)]
        self.makes(calls, join(4, 5), ("fn", 13, 12), ("fn", 12, 13))
        calls = [fn(4, 5, 5), fn(5, 4, 4)]
        self.makes(calls, join(4, 5), ("fn", 13, 14), ("fn", 12, 15), ("fn", 15, 12), ("fn", 14, 13))

    def test_the_same_two_nodes_are_no_copy(self):
        calls = [record(4, 1, 5), variant(5, 1, ONE)]
        for call in (join, meet):
            self.makes(calls, call(4, 4), ("record", {1: 13}), ("sum", {1: 14}), BASE_1)

    def test_numbered_on_from_those_that_are_there(self):
        calls = [*START, record(4, 1, ONE, 2, TWO), join(4, 4), meet(4, 4), new(), join(ONE, TWO), new()]
        self.assertEqual(ask(*calls)[-5:], [[0, 12], [0, 15], [0, 18], [0, 19], [0, 20]])
        expected = [("record", {1: 13, 2: 14}), BASE_1, BASE_2, ("record", {1: 16, 2: 17}), BASE_1, BASE_2, ("open",),
                    ANYTHING, ("open",)]
        self.assertEqual(shapes_from(calls, 12), expected)

    def test_the_same_bound_again_makes_new_nodes_again(self):
        calls = [*START, record(4, 1, 4, 2, ONE), join(4, 4), join(4, 4)]
        self.assertEqual(ask(*calls)[-2:], [[0, 12], [0, 14]])
        self.assertEqual(shapes_from(calls, 12),
                         [("record", {1: 12, 2: 13}), BASE_1, ("record", {1: 14, 2: 15}), BASE_1])

    def test_lists_of_one_sort_with_lists_of_another(self):
        """Lists: a sum of nothing and of a record with a head and the rest."""
        calls = [record(4), variant(5, 0, 4, 1, 6), record(6, 0, ONE, 1, 5), variant(7, 0, 4, 1, 8, 2, 8),
                 record(8, 0, TWO, 1, 7)]
        within = [("record", {}), ("record", {0: 15, 1: 12})]
        self.makes(calls, join(5, 7), ("sum", {0: 13, 1: 14, 2: 8}), *within, ANYTHING)
        self.makes(calls, meet(5, 7), ("sum", {0: 13, 1: 14}), *within, NOTHING)


class BoundsOfBounds(Bounds):
    CALLS = [*START, record(4, 1, 4, 2, ONE), record(5, 1, 6, 2, TWO), record(6, 1, 5, 3, TWO), join(4, 5), meet(4, 5)]

    def test_join_and_meet_of_what_join_and_meet_made(self):
        """12 to 14 are the join's nodes, 15 to 17 the meet's."""
        calls = [*self.CALLS, join(12, 15), meet(12, 15), join(16, 4)]
        self.assertEqual(ask(*calls)[-5:], [[0, 12], [0, 15], [0, 18], [0, 21], [0, 24]])
        self.assertEqual(shapes_from(calls, 12), [
            ("record", {1: 13, 2: 14}), ("record", {1: 12}), ANYTHING,
            ("record", {1: 16, 2: 17}), ("record", {1: 15, 2: ONE, 3: TWO}), NOTHING,
            ("record", {1: 19, 2: 20}), ("record", {1: 18}), ANYTHING,
            ("record", {1: 22, 2: 23}), ("record", {1: 21, 2: ONE, 3: TWO}), NOTHING,
            ("record", {1: 25, 2: 26}), ("record", {1: 24, 2: 27}), BASE_1, BASE_1,
        ])

    def test_sub_and_why_of_bounds(self):
        questions = [sub(4, 12), sub(5, 12), sub(15, 4), sub(15, 5), sub(15, 12), sub(12, 15), why(12, 15), why(12, 4),
                     why(4, 15), why(15, 12)]
        self.assertEqual(ask(*self.CALLS, *questions)[-10:],
                         [[0, 1], [0, 1], [0, 1], [0, 1], [0, 1], [0, 0], [0, 3], [0, 3], [0, 3], [-5]])

    def test_none_and_any_that_a_bound_made_count_as_such(self):
        calls = [*START, record(4, 1, ONE), join(ONE, TWO), meet(ONE, TWO), join(13, 4), meet(12, 4), join(12, 4),
                 meet(13, 4)]
        self.assertEqual(shapes_from(calls, 12), [ANYTHING, NOTHING, ("record", {1: ONE}), ("record", {1: ONE}),
                                                  ANYTHING, NOTHING])

    def test_a_bound_may_be_named_as_a_part(self):
        calls = [*START, join(ONE, ONE), record(4, 1, 12), join(4, 4), sub(13, 4), part(13, 3), kind(14)]
        self.assertEqual(ask(*calls)[-5:], [[0], [0, 13], [0, 1], [0, 14], [0, 1]])

    def test_nothing_but_new_nodes(self):
        calls = [*made(3), plain(0, BASE, 1), plain(1, NONE), join(0, 1)]
        self.assertEqual(node_count(calls), 4)
        self.assertEqual([shape(calls, x) for x in range(4)], [BASE_1, NOTHING, ("open",), BASE_1])
