"""The promises over many graphs and rows of calls, held against another reckoning of the answers."""

import unittest

from tests.helpers import BIG, ask, fn, made, plain, rows, sub, why
from tests.model import Model
from tests.picks import Picks


def some_row(picks, nodes, labels):
    row = []
    for label in range(labels):
        if picks.below(3) > 0:
            row.insert(0, [label * 3, picks.below(nodes)])
    return [number for pair in row for number in pair]


def some_definition(picks, x, nodes):
    """Few bases and labels, so that many pairs are right and many paths are as short as others."""
    choice = picks.below(12)
    if choice < 4:
        return plain(x, picks.one_of((1, 1, 2, 3)), picks.below(2))
    if choice < 7:
        return fn(x, picks.below(nodes), picks.below(nodes))
    return rows(x, picks.one_of((5, 6)), *some_row(picks, nodes, picks.one_of((1, 2, 2, 3))))


def some_cyclic_definition(picks, x, nodes):
    """Nearly all records, or nearly all sums, each with a part, so that most pairs ask further and paths are long."""
    if picks.below(8) == 0:
        return fn(x, picks.below(nodes), picks.below(nodes))
    row = [0, picks.below(nodes), 1, picks.below(nodes), 2, picks.below(nodes)]
    return rows(x, 5 + nodes % 2, *row[:picks.one_of((2, 4, 4, 4, 6))])


def some_number(picks):
    return picks.one_of((0, 0, 1, 1, 2, 2, 3, 4, 5, 6, 7, 8, 9, 255, 256, BIG))


def some_call(picks):
    """A call as likely wrong as right."""
    choice = picks.below(16)
    if choice < 2:
        return [1]
    if choice < 5:
        return [2, some_number(picks), picks.one_of((0, 1, 1, 2, 3, 4, BIG)), some_number(picks)]
    if choice < 7:
        return [3, some_number(picks), some_number(picks), some_number(picks)]
    if choice < 10:
        row = [some_number(picks) for number in range(picks.one_of((0, 2, 2, 2, 4, 4, 5, 6, 16, 18, 40)))]
        return rows(some_number(picks), picks.one_of((5, 5, 6, 6, 4, 7)), *row)
    return [picks.one_of((5, 6)), some_number(picks), some_number(picks)]


class HeldAgainstTheModel(unittest.TestCase):
    def same(self, calls):
        model = Model()
        self.assertEqual(ask(*calls), [model.answer(call) for call in calls], calls)

    def all_pairs(self, definition, seeds):
        for seed in range(seeds):
            picks = Picks(seed)
            nodes = 2 + picks.below(6)
            calls = [*made(nodes), *[definition(picks, x, nodes) for x in range(nodes)]]
            for a in range(nodes):
                for b in range(nodes):
                    calls += [sub(a, b), why(a, b)]
            with self.subTest(seed=seed):
                self.same(calls)

    def test_all_pairs_of_small_graphs(self):
        self.all_pairs(some_definition, 250)

    def test_all_pairs_of_cyclic_graphs(self):
        self.all_pairs(some_cyclic_definition, 150)

    def test_calls_of_any_sort(self):
        for seed in range(150):
            picks = Picks(1000 + seed)
            with self.subTest(seed=seed):
                self.same([[1], [1], *[some_call(picks) for number in range(120)]])


class NodesAreNeverChanged(unittest.TestCase):
    """Promise 4."""

    def setUp(self):
        self.defined = [*made(8), plain(0, 1, 1), plain(1, 2), plain(2, 3), fn(3, 4, 5), rows(4, 5, 1, 3, 2, 0),
                        rows(5, 6, 1, 3, 2, 1), rows(6, 5, 1, 3, 2, 1, 3, 0), fn(7, 6, 5)]
        self.questions = [question(a, b) for a in range(8) for b in range(8) for question in (sub, why)]

    def after(self, between):
        """The answers to all questions, after calls that are made once the nodes are defined."""
        return ask(*self.defined, *between, *self.questions)[-len(self.questions):]

    def test_after_calls_that_are_refused(self):
        before = self.after([])
        for x in range(8):
            again = [plain(x, 1, 9), plain(x, 2), plain(x, 3), fn(x, 0, 1), fn(x, x, x), rows(x, 5), rows(x, 6),
                     rows(x, 5, 1, 0), rows(x, 6, 9, 2)]
            self.assertEqual(ask(*self.defined, *again)[-len(again):], [[-3]] * len(again))
            self.assertEqual(self.after(again), before)
            wrong = [plain(x, 0), plain(x, 1, 256), fn(x, 8, 0), fn(x, 0, BIG), rows(x, 4, 1, 0),
                     rows(x, 5, 1, 0, 1, 1), rows(x, 6, 256, 0), rows(x, 5, 1, 8), rows(x, 5, 1)]
            self.assertEqual(ask(*self.defined, *wrong)[-len(wrong):], [[-1]] * len(wrong))
            self.assertEqual(self.after(wrong), before)

    def test_after_calls_that_are_not_refused(self):
        before = self.after([])
        more = [*made(6), plain(8, 1, 200), plain(9, 3), fn(10, 3, 4), rows(11, 5, 1, 3, 2, 5), rows(12, 6, 1, 12)]
        self.assertEqual(self.after([*more, sub(3, 7), why(7, 3), sub(10, 11), why(12, 5), sub(13, 13)]), before)

    def test_after_all_nodes_are_made(self):
        before = self.after([])
        self.assertEqual(self.after(made(60)), before)

    def test_after_the_same_questions(self):
        answered = ask(*self.defined, *self.questions, *self.questions)
        self.assertEqual(answered[-128:], answered[-256:-128])

    def test_a_node_can_be_defined_just_once_after_refusals(self):
        calls = [*made(2), plain(0, 2), fn(1, 5, 0), rows(1, 5, 3, 0, 3, 0), plain(1, 1, 256), sub(1, 1),
                 rows(1, 5, 3, 0), fn(1, 0, 0), sub(1, 0), why(0, 1)]
        self.assertEqual(ask(*calls)[2:], [[0], [-1], [-1], [-1], [-4], [0], [-3], [0, 1], [0]])

    def test_over_many_rows_of_calls(self):
        for seed in range(60):
            picks = Picks(5000 + seed)
            between = [some_call(picks) for number in range(130)]
            with self.subTest(seed=seed):
                self.assertEqual(self.after(between), self.after([]))
