"""new, plain, fn and rows: what they answer, and that a refusal changes nothing."""

import unittest

from tests.helpers import (ANY, BASE, BIG, NONE, RECORD, SUM, ask, ask_last, flat, fn, made, new, plain, record, rows,
                           sub, variant, why)


class New(unittest.TestCase):
    def test_numbers_rise_from_0(self):
        self.assertEqual(ask(*made(4)), [[0, 0], [0, 1], [0, 2], [0, 3]])

    def test_the_64th_is_made_and_the_65th_refused(self):
        answered = ask(*made(66))
        self.assertEqual(answered[:64], [[0, x] for x in range(64)])
        self.assertEqual(answered[64:], [[-2], [-2]])

    def test_a_refused_node_is_not_there(self):
        self.assertEqual(ask(*made(65), plain(64, ANY), plain(63, ANY), sub(63, 63))[64:], [[-2], [-1], [0], [0, 1]])

    def test_other_calls_take_no_number(self):
        self.assertEqual(ask(new(), plain(0, ANY), fn(0, 0, 0), sub(0, 0), new())[-1], [0, 1])


class Plain(unittest.TestCase):
    def test_kinds(self):
        for kind in (1, 2, 3):
            self.assertEqual(ask_last(new(), plain(0, kind, 5)), [0])

    def test_other_kinds(self):
        for kind in (0, 4, 5, 6, 7, BIG):
            self.assertEqual(ask(new(), plain(0, kind, 5), sub(0, 0), plain(0, ANY)), [[0, 0], [-1], [-4], [0]])

    def test_the_last_base(self):
        for base in (0, 254, 255):
            self.assertEqual(ask_last(new(), plain(0, BASE, base)), [0])
        for base in (256, BIG):
            self.assertEqual(ask(new(), plain(0, BASE, base), sub(0, 0), plain(0, BASE, 255)),
                             [[0, 0], [-1], [-4], [0]])

    def test_base_is_not_looked_at_for_any_and_none(self):
        for base in (0, 255, 256, BIG):
            made_two = [new(), new(), plain(0, ANY, base), plain(1, NONE, base)]
            self.assertEqual(ask(*made_two, sub(1, 0), sub(0, 1))[2:], [[0], [0], [0, 1], [0, 0]])

    def test_no_node(self):
        self.assertEqual(ask(plain(0, ANY), new(), plain(1, ANY), plain(BIG, ANY)), [[-1], [0, 0], [-1], [-1]])

    def test_defined_already(self):
        for first in (plain(0, BASE, 1), plain(0, ANY), plain(0, NONE), fn(0, 0, 0), record(0), variant(0, 1, 0)):
            for kind in (BASE, ANY, NONE):
                self.assertEqual(ask_last(new(), first, plain(0, kind, 1)), [-3])

    def test_the_first_refusal_told_comes_first(self):
        for call in (plain(0, 0), plain(0, 4), plain(0, BASE, 256)):
            self.assertEqual(ask_last(new(), plain(0, ANY), call), [-1])


class Fn(unittest.TestCase):
    def test_each_of_the_three_missing(self):
        for call in (fn(2, 0, 1), fn(0, 2, 1), fn(0, 1, 2), fn(BIG, 0, 0), fn(0, BIG, 0), fn(0, 0, BIG)):
            self.assertEqual(ask(*made(2), call, sub(0, 0), fn(0, 0, 1))[2:], [[-1], [-4], [0]])
        self.assertEqual(ask(fn(0, 0, 0)), [[-1]])

    def test_itself(self):
        self.assertEqual(ask(new(), fn(0, 0, 0), sub(0, 0)), [[0, 0], [0], [0, 1]])

    def test_parts_that_are_not_defined_yet(self):
        calls = [*made(3), fn(0, 1, 2), sub(0, 0), plain(1, ANY), sub(0, 0), plain(2, ANY), sub(0, 0)]
        self.assertEqual(ask(*calls)[3:], [[0], [-4], [0], [-4], [0], [0, 1]])

    def test_defined_already(self):
        for first in (plain(0, BASE, 1), plain(0, ANY), plain(0, NONE), fn(0, 0, 0), record(0), variant(0, 1, 0)):
            self.assertEqual(ask_last(new(), first, fn(0, 0, 0)), [-3])

    def test_the_first_refusal_told_comes_first(self):
        for call in (fn(0, 1, 0), fn(0, 0, 1)):
            self.assertEqual(ask_last(new(), fn(0, 0, 0), call), [-1])


class Rows(unittest.TestCase):
    def refused(self, kind, *row):
        """Refused with -1, the node still open and to be defined, and -1 too where it's defined already."""
        self.assertEqual(ask(*made(2), rows(0, kind, *row), sub(0, 0), record(0, 1, 1))[2:], [[-1], [-4], [0]])
        self.assertEqual(ask_last(*made(2), plain(0, ANY), rows(0, kind, *row)), [-1])

    def test_a_record_and_a_sum(self):
        for kind in (RECORD, SUM):
            self.assertEqual(ask(*made(2), rows(0, kind, 3, 0, 4, 1), plain(1, ANY), sub(0, 0))[2:],
                             [[0], [0], [0, 1]])

    def test_no_rows(self):
        for kind in (RECORD, SUM):
            self.assertEqual(ask(new(), rows(0, kind), sub(0, 0)), [[0, 0], [0], [0, 1]])

    def test_eight_rows_and_nine(self):
        for kind in (RECORD, SUM):
            self.assertEqual(ask_last(new(), rows(0, kind, *flat([[k, 0] for k in range(8)]))), [0])
            self.refused(kind, *flat([[k, 0] for k in range(9)]))
            self.refused(kind, *flat([[k, 0] for k in range(8)]), 8)

    def test_a_row_of_forty_numbers(self):
        for kind in (RECORD, SUM):
            self.refused(kind, *flat([[k, 0] for k in range(20)]))

    def test_an_odd_number_of_numbers(self):
        for kind in (RECORD, SUM):
            self.refused(kind, 0)
            self.refused(kind, 1, 0, 2)
            self.refused(kind, 0, 0, 1, 1, 5)

    def test_the_last_label(self):
        for kind in (RECORD, SUM):
            self.assertEqual(ask_last(new(), rows(0, kind, 255, 0, 0, 0)), [0])
            self.refused(kind, 256, 0)
            self.refused(kind, 1, 0, BIG, 0)

    def test_a_label_twice(self):
        for kind in (RECORD, SUM):
            self.refused(kind, 3, 0, 3, 0)
            self.refused(kind, 3, 0, 3, 1)
            self.refused(kind, 3, 0, 1, 0, 2, 1, 3, 1)

    def test_a_node_that_is_not_there(self):
        for kind in (RECORD, SUM):
            self.refused(kind, 1, 2)
            self.refused(kind, 1, 0, 0, BIG)
            self.refused(kind, 1, 2, 0, 0)

    def test_no_node_x(self):
        for kind in (RECORD, SUM):
            self.assertEqual(ask(rows(0, kind), new(), rows(1, kind), rows(BIG, kind, 1, 0)),
                             [[-1], [0, 0], [-1], [-1]])

    def test_another_kind(self):
        for kind in (0, 1, 2, 3, 4, 7, BIG):
            self.refused(kind)
            self.refused(kind, 1, 0)

    def test_in_whatever_order(self):
        for kind in (RECORD, SUM):
            calls = [*made(5), plain(2, BASE, 1), plain(3, BASE, 2), plain(4, BASE, 3),
                     rows(0, kind, 7, 2, 200, 3, 9, 4), rows(1, kind, 200, 3, 9, 4, 7, 2)]
            self.assertEqual(ask(*calls, sub(0, 1), sub(1, 0))[-2:], [[0, 1], [0, 1]])

    def test_each_label_has_its_own_part(self):
        for kind in (RECORD, SUM):
            calls = [*made(4), plain(2, BASE, 1), plain(3, BASE, 2),
                     rows(0, kind, 9, 2, 4, 3), rows(1, kind, 9, 3, 4, 2)]
            self.assertEqual(ask_last(*calls, why(0, 1)), [0, 6])

    def test_defined_already(self):
        for first in (plain(0, BASE, 1), plain(0, ANY), plain(0, NONE), fn(0, 0, 0), record(0), variant(0, 1, 0)):
            for kind in (RECORD, SUM):
                self.assertEqual(ask_last(new(), first, rows(0, kind)), [-3])
                self.assertEqual(ask_last(new(), first, rows(0, kind, 1, 0)), [-3])
