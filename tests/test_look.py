"""kind, value, part and label: what they tell of a node, and where they tell nothing."""

import unittest

from tests.helpers import (ANY, BASE, BIG, FUNCTION, NONE, OPEN, RECORD, SUM, ask, ask_after, ask_last, flat, fn, join,
                           kind, label, made, meet, new, part, plain, record, rows, shape, value, variant)

# A node of each sort, and those that are no node.
EACH = [*made(8), plain(0, BASE, 7), plain(1, ANY), plain(2, NONE), fn(3, 4, 6), record(4, 9, 3, 4, 0, 200, 4),
        variant(5, 255, 1, 0, 2), plain(7, BASE, 0)]
KINDS = [BASE, ANY, NONE, FUNCTION, RECORD, SUM, OPEN, BASE]
NO_NODES = (8, 9, 64, BIG)


class Kind(unittest.TestCase):
    def test_all_seven(self):
        self.assertEqual(ask_after(EACH, [kind(x) for x in range(8)]), [[0, told] for told in KINDS])
        self.assertEqual(KINDS, [1, 2, 3, 4, 5, 6, 0, 1])

    def test_no_rows_are_still_a_record_and_a_sum(self):
        self.assertEqual(ask(*made(2), record(0), variant(1), kind(0), kind(1))[4:], [[0, 5], [0, 6]])

    def test_no_node(self):
        self.assertEqual(ask_after(EACH, [kind(x) for x in NO_NODES]), [[-1]] * 4)
        self.assertEqual(ask(kind(0), new(), kind(0), kind(1)), [[-1], [0, 0], [0, 0], [-1]])

    def test_open_until_it_is_defined(self):
        calls = [new(), kind(0), plain(0, 4), kind(0), fn(0, 0, 1), kind(0), fn(0, 0, 0), kind(0), plain(0, ANY),
                 kind(0)]
        self.assertEqual(ask(*calls)[1::2], [[0, 0], [0, 0], [0, 0], [0, 4], [0, 4]])

    def test_a_node_that_a_bound_is(self):
        calls = [*made(2), plain(0, ANY), plain(1, NONE), join(0, 1), meet(0, 1), kind(2), kind(3), kind(4)]
        self.assertEqual(ask(*calls)[4:], [[0, 2], [0, 3], [0, 2], [0, 3], [-1]])


class Value(unittest.TestCase):
    def test_a_base(self):
        for base in (0, 1, 7, 254, 255):
            self.assertEqual(ask_last(new(), plain(0, BASE, base), value(0)), [0, base])

    def test_any_other_sort(self):
        told = [[0, 7], [-1], [-1], [-1], [-1], [-1], [-1], [0, 0]]
        self.assertEqual(ask_after(EACH, [value(x) for x in range(8)]), told)

    def test_any_and_none_have_none_whatever_base_was_named(self):
        self.assertEqual(ask(*made(2), plain(0, ANY, 5), plain(1, NONE, 5), value(0), value(1))[4:], [[-1], [-1]])

    def test_no_node(self):
        self.assertEqual(ask_after(EACH, [value(x) for x in NO_NODES]), [[-1]] * 4)

    def test_a_refused_definition_leaves_none(self):
        calls = [new(), plain(0, BASE, 256), value(0), plain(0, BASE, 255), plain(0, BASE, 3), value(0)]
        self.assertEqual(ask(*calls)[2::3], [[-1], [0, 255]])


class Part(unittest.TestCase):
    def test_a_function(self):
        self.assertEqual(ask_after(EACH, [part(3, s) for s in (0, 1)]), [[0, 4], [0, 6]])

    def test_nothing_else_stands_in_a_function(self):
        for s in (2, 3, 4, 6, 257, 258, BIG):
            self.assertEqual(ask_last(*EACH, part(3, s)), [-1])

    def test_a_record_and_a_sum(self):
        self.assertEqual(ask_after(EACH, [part(4, 2 + k) for k in (9, 4, 200)]), [[0, 3], [0, 0], [0, 4]])
        self.assertEqual(ask_after(EACH, [part(5, 2 + k) for k in (255, 0)]), [[0, 1], [0, 2]])

    def test_nothing_stands_at_0_and_1_of_rows(self):
        for told in (RECORD, SUM):
            calls = [new(), rows(0, told, *flat([[k, 0] for k in range(8)]))]
            self.assertEqual(ask_after(calls, [part(0, s) for s in range(11)]), [[-1]] * 2 + [[0, 0]] * 8 + [[-1]])

    def test_a_label_that_is_not_there(self):
        for s in (4, 9, 5, 7, 10, 12, 200, 201, 203, 257, 258, BIG):
            self.assertEqual(ask_last(*EACH, part(4, s)), [-1], s)
        for s in (0, 1, 3, 255, 256, 258, BIG - 1, BIG):
            self.assertEqual(ask_last(*EACH, part(5, s)), [-1], s)

    def test_other_sorts_and_open_nodes(self):
        for x in (0, 1, 2, 6, 7):
            self.assertEqual(ask_after(EACH, [part(x, s) for s in (0, 1, 2, 3, 9, BIG)]), [[-1]] * 6)

    def test_no_node(self):
        for x in NO_NODES:
            self.assertEqual(ask_after(EACH, [part(x, s) for s in (0, 1, 2, 6, BIG)]), [[-1]] * 5)

    def test_a_part_that_is_still_open_is_told(self):
        self.assertEqual(ask(*made(3), fn(0, 2, 1), record(1, 5, 2), part(0, 0), part(1, 7))[5:], [[0, 2], [0, 2]])

    def test_the_last_node(self):
        self.assertEqual(ask_last(*made(64), fn(0, 63, 62), part(0, 0)), [0, 63])


class Label(unittest.TestCase):
    def test_rising_whatever_the_order(self):
        for told in (RECORD, SUM):
            for order in ((1, 20, 100, 255), (255, 100, 20, 1), (20, 255, 1, 100), (100, 1, 255, 20)):
                calls = [new(), rows(0, told, *flat([[k, 0] for k in order]))]
                self.assertEqual(ask_after(calls, [label(0, k) for k in range(5)]),
                                 [[0, 1], [0, 20], [0, 100], [0, 255], [-1]])

    def test_each_label_with_its_part_whatever_the_order(self):
        for told, sort in ((RECORD, "record"), (SUM, "sum")):
            for order in ((3, 1, 2), (1, 2, 3), (2, 3, 1)):
                calls = [*made(5), rows(0, told, *flat([[k, k + 1] for k in order]))]
                self.assertEqual(shape(calls, 0), (sort, {1: 2, 2: 3, 3: 4}))

    def test_from_the_number_of_labels_on(self):
        for told in (RECORD, SUM):
            for count in range(9):
                calls = [new(), rows(0, told, *flat([[250 - 9 * k, 0] for k in range(count)]))]
                self.assertEqual(ask_after(calls, [label(0, k) for k in (count, count + 1, 8, 255, BIG)]), [[-1]] * 5)
                rising = [[0, 250 - 9 * k] for k in reversed(range(count))]
                self.assertEqual(ask_after(calls, [kind(0), *[label(0, k) for k in range(count)]])[1:], rising)

    def test_other_sorts_and_open_nodes(self):
        for x in (0, 1, 2, 3, 6, 7):
            self.assertEqual(ask_after(EACH, [label(x, k) for k in (0, 1, 2, BIG)]), [[-1]] * 4)

    def test_no_node(self):
        for x in NO_NODES:
            self.assertEqual(ask_after(EACH, [label(x, k) for k in (0, 1, BIG)]), [[-1]] * 3)


class LooksChangeNothing(unittest.TestCase):
    def test_all_looks_twice(self):
        numbers = [*range(10), BIG]
        for look in (part, label):
            looks = [look(x, s) for x in numbers for s in (0, 1, 2, 6, 11, BIG)]
            self.assertEqual(ask_after(EACH + looks, looks), ask_after(EACH, looks))
            self.assertEqual(ask_last(*EACH, *looks, new()), [0, 8])
        looks = [look(x) for x in numbers for look in (kind, value)]
        self.assertEqual(ask_after(EACH + looks, looks), ask_after(EACH, looks))
        self.assertEqual(ask_last(*EACH, *looks, new()), [0, 8])
