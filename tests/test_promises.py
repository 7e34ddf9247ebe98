"""The promises over many graphs and rows of calls, held against another reckoning of the answers."""

import unittest

from tests.helpers import (BIG, ask, ask_after, ask_last, fn, join, kind, label, looks, made, meet, new, node_count,
                           part, plain, record, rows, shape, sub, value, variant, why)
from tests.model import Model
from tests.picks import Picks


def some_row(picks, nodes, labels):
    row = []
    for label in range(labels):
        if picks.below(3) > 0:
            row.insert(0, [label * 3, picks.below(nodes)])
    return [number for pair in row for number in pair]


def some_definition(picks, x, nodes):
    """Few bases and labels, so that many pairs are right and many paths are as short as others."""
    choice = picks.below(12)
    if choice < 4:
        return plain(x, picks.one_of((1, 1, 2, 3)), picks.below(2))
    if choice < 7:
        return fn(x, picks.below(nodes), picks.below(nodes))
    return rows(x, picks.one_of((5, 6)), *some_row(picks, nodes, picks.one_of((1, 2, 2, 3))))


def some_cyclic_definition(picks, x, nodes):
    """Nearly all records, or nearly all sums, each with a part, so that most pairs ask further and paths are long."""
    if picks.below(8) == 0:
        return fn(x, picks.below(nodes), picks.below(nodes))
    row = [0, picks.below(nodes), 1, picks.below(nodes), 2, picks.below(nodes)]
    return rows(x, 5 + nodes % 2, *row[:picks.one_of((2, 4, 4, 4, 6))])


def some_number(picks):
    return picks.one_of((0, 0, 1, 1, 2, 2, 3, 4, 5, 6, 7, 8, 9, 255, 256, BIG))


def some_call(picks):
    """A call as likely wrong as right."""
    choice = picks.below(16)
    if choice < 2:
        return [1]
    if choice < 5:
        return [2, some_number(picks), picks.one_of((0, 1, 1, 2, 3, 4, BIG)), some_number(picks)]
    if choice < 7:
        return [3, some_number(picks), some_number(picks), some_number(picks)]
    if choice < 10:
        row = [some_number(picks) for number in range(picks.one_of((0, 2, 2, 2, 4, 4, 5, 6, 16, 18, 40)))]
        return rows(some_number(picks), picks.one_of((5, 5, 6, 6, 4, 7)), *row)
    number = picks.one_of((5, 6, 7, 8, 9, 10, 11, 12))
    if number in (9, 10):
        return [number, some_number(picks)]
    return [number, some_number(picks), some_number(picks)]


def some_wide_row(picks, nodes):
    """Up to 8 rows of 12 labels, so that two together are now and then too wide."""
    count = picks.one_of((0, 1, 2, 2, 3, 6, 7, 8))
    labels = []
    while len(labels) < count:
        label_of_row = picks.below(12)
        if label_of_row not in labels:
            labels.append(label_of_row)
    return [number for tag in labels for number in (tag, picks.below(nodes))]


def some_likely_call(picks, model):
    """A call that fits the nodes that are there, and in one of some cases doesn't."""
    nodes = max(len(model.nodes), 1) + (picks.below(12) == 0)
    open_nodes = [x for x, node in enumerate(model.nodes) if node is None]
    x = picks.one_of(open_nodes) if open_nodes and picks.below(8) > 0 else picks.below(nodes)
    choice = picks.below(40)
    if not model.nodes or choice < 4:
        return new()
    if choice < 8:
        return plain(x, picks.one_of((1, 1, 2, 3)), picks.below(2))
    if choice < 11:
        return fn(x, picks.below(nodes), picks.below(nodes))
    if choice < 15:
        return rows(x, picks.one_of((5, 6)), *some_wide_row(picks, nodes))
    a = picks.below(nodes)
    alike = [x for x in range(len(model.nodes)) if model.there(a) and model.sort_of(x) == model.sort_of(a)]
    b = picks.one_of(alike) if alike and picks.below(2) == 0 else picks.below(nodes)
    if choice < 27:
        return picks.one_of((sub, why, join, meet))(a, b)
    if choice < 31:
        return picks.one_of((kind, value))(a)
    return part(a, picks.below(13)) if choice < 36 else label(a, picks.below(5))


class HeldAgainstTheModel(unittest.TestCase):
    def same(self, calls):
        model = Model()
        self.assertEqual(ask(*calls), [model.answer(call) for call in calls], calls)

    def all_pairs(self, definition, seeds):
        for seed in range(seeds):
            picks = Picks(seed)
            nodes = 2 + picks.below(6)
            calls = [*made(nodes), *[definition(picks, x, nodes) for x in range(nodes)]]
            for a in range(nodes):
                for b in range(nodes):
                    calls += [sub(a, b), why(a, b)]
            with self.subTest(seed=seed):
                self.same(calls)

    def test_all_pairs_of_small_graphs(self):
        self.all_pairs(some_definition, 250)

    def test_all_pairs_of_cyclic_graphs(self):
        self.all_pairs(some_cyclic_definition, 150)

    def test_bounds_of_all_pairs(self):
        """All nodes that a bound makes are looked at, and compared with those that were there."""
        for seed in range(120):
            picks = Picks(2000 + seed)
            nodes = 2 + picks.below(5)
            definition = picks.one_of((some_definition, some_cyclic_definition))
            start = [*made(nodes), *[definition(picks, x, nodes) for x in range(nodes)]]
            for a in range(nodes):
                for bound in (join, meet):
                    calls = [*start, bound(a, picks.below(nodes))]
                    last = node_count(calls) - 1
                    calls += [sub(last, a), why(nodes, a), sub(a, nodes), why(a, last)] if last >= nodes else []
                    for x in range(nodes, min(last + 1, nodes + 15)):
                        calls += [*looks(x), part(x, 2), part(x, 3), part(x, 5)]
                    with self.subTest(seed=seed, a=a):
                        self.same(calls)

    def test_three_hundred_calls_of_all_twelve(self):
        answered = {}
        for seed in range(60):
            picks, model = Picks(3000 + seed), Model()
            calls, expected = [], []
            for number in range(300):
                calls.append(some_likely_call(picks, model))
                expected.append(model.answer(calls[-1]))
                answered.setdefault(calls[-1][0], set()).add(min(expected[-1][0], 0))
            with self.subTest(seed=seed):
                self.assertEqual(ask(*calls), expected)
        self.assertEqual(answered, {
            1: {0, -2}, 2: {0, -1, -3}, 3: {0, -1, -3}, 4: {0, -1, -3}, 5: {0, -1, -4}, 6: {0, -1, -4, -5},
            7: {0, -1, -4, -6, -2}, 8: {0, -1, -4, -6, -2}, 9: {0, -1}, 10: {0, -1}, 11: {0, -1}, 12: {0, -1},
        })

    def test_calls_of_any_sort(self):
        for seed in range(150):
            picks = Picks(1000 + seed)
            with self.subTest(seed=seed):
                self.same([[1], [1], *[some_call(picks) for number in range(120)]])


def small_shapes():
    """Calls that define a graph of many small shapes: rows and functions of bases, any and none, and some cycles."""
    calls = [plain(0, 1, 1), plain(1, 1, 2), plain(2, 2), plain(3, 3)]
    parts = [[], [1, 0], [1, 1], [1, 2], [1, 3], [2, 0], [1, 0, 2, 0], [1, 2, 2, 1]]
    calls += [rows(4 + at, 5, *row) for at, row in enumerate(parts)]
    calls += [rows(12 + at, 6, *row) for at, row in enumerate(parts)]
    ends = [(0, 0), (0, 1), (1, 0), (2, 3), (3, 2), (2, 0), (4, 4), (5, 7)]
    calls += [fn(20 + at, argument, result) for at, (argument, result) in enumerate(ends)]
    calls += [record(28, 1, 28), record(29, 1, 30, 2, 0), record(30, 1, 29), variant(31, 1, 32, 2, 4),
              record(32, 1, 0, 2, 31), fn(33, 33, 0), fn(34, 34, 34)]
    return [*made(len(calls)), *calls]


class BoundsAreTheLeastAndTheGreatest(unittest.TestCase):
    """Promise 3."""

    def held(self, calls, nodes, below, bound, a, b):
        """A bound is below just what both are below (meet: above just what both are above); so it's above both too."""
        calls = [*calls, bound(a, b)]
        answered = ask_last(*calls)
        if answered[0] < 0:
            self.assertIn(answered, ([-2], [-6]))
            return 0
        made_node = answered[1]
        if bound is join:
            sides = [sub(a, made_node), sub(b, made_node), *[sub(made_node, c) for c in range(nodes)]]
            expected = [below[a][c] and below[b][c] for c in range(nodes)]
        else:
            sides = [sub(made_node, a), sub(made_node, b), *[sub(c, made_node) for c in range(nodes)]]
            expected = [below[c][a] and below[c][b] for c in range(nodes)]
        self.assertEqual(ask_after(calls, sides), [[0, 1], [0, 1], *[[0, told] for told in expected]], calls)
        return 1

    def below(self, calls, nodes):
        return [[answer[1] for answer in ask_after(calls, [sub(a, b) for b in range(nodes)])] for a in range(nodes)]

    def test_among_many_small_shapes(self):
        calls = small_shapes()
        nodes = node_count(calls)
        below = self.below(calls, nodes)
        for a in range(nodes):
            for b in range(nodes):
                for bound in (join, meet):
                    self.assertEqual(self.held(calls, nodes, below, bound, a, b), 1)

    def test_among_graphs_of_many_sorts(self):
        held = 0
        for seed in range(150):
            picks = Picks(4000 + seed)
            nodes = 4 + picks.below(8)
            definition = picks.one_of((some_definition, some_cyclic_definition))
            calls = [*made(nodes), *[definition(picks, x, nodes) for x in range(nodes)]]
            below = self.below(calls, nodes)
            for number in range(12):
                with self.subTest(seed=seed):
                    held += self.held(calls, nodes, below, picks.one_of((join, meet)), picks.below(nodes),
                                      picks.below(nodes))
        self.assertGreater(held, 1000)

    def test_bounds_of_bounds(self):
        """Bounds come among the nodes, and the bounds of these are held against all that are there."""
        held = 0
        for seed in range(80):
            picks = Picks(6000 + seed)
            nodes = 3 + picks.below(5)
            calls = [*made(nodes), *[some_definition(picks, x, nodes) for x in range(nodes)]]
            for number in range(4):
                nodes = node_count(calls)
                calls = [*calls, picks.one_of((join, meet))(picks.below(nodes), picks.below(nodes))]
            nodes = min(node_count(calls), 60)
            below = self.below(calls, nodes)
            for number in range(6):
                with self.subTest(seed=seed):
                    held += self.held(calls, nodes, below, picks.one_of((join, meet)), picks.below(nodes),
                                      picks.below(nodes))
        self.assertGreater(held, 200)

    def test_the_laws_that_bounds_keep(self):
        """a below b just where b is the least above both, and just where a is the greatest below both."""
        calls = small_shapes()
        nodes = node_count(calls)
        below = self.below(calls, nodes)
        for a in range(nodes):
            for b in range(nodes):
                for bound, other in ((join, b), (meet, a)):
                    asked = [bound(a, b), sub(other, nodes), sub(nodes, other)]
                    alike = ask_after(calls, asked)[1:] == [[0, 1], [0, 1]]
                    self.assertEqual(alike, below[a][b] == 1)


class NodesAreNeverChanged(unittest.TestCase):
    """Promise 4."""

    def setUp(self):
        self.defined = [*made(8), plain(0, 1, 1), plain(1, 2), plain(2, 3), fn(3, 4, 5), rows(4, 5, 1, 3, 2, 0),
                        rows(5, 6, 1, 3, 2, 1), rows(6, 5, 1, 3, 2, 1, 3, 0), fn(7, 6, 5)]
        self.questions = [question(a, b) for a in range(8) for b in range(8) for question in (sub, why)]

    def after(self, between):
        """The answers to all questions and the shapes, after calls that are made once the nodes are defined."""
        calls = [*self.defined, *between]
        return ask_after(calls, self.questions), [shape(calls, x) for x in range(8)]

    def test_the_nodes_are_as_they_were_defined(self):
        self.assertEqual(self.after([])[1], [
            ("base", 1), ("any",), ("none",), ("fn", 4, 5), ("record", {1: 3, 2: 0}), ("sum", {1: 3, 2: 1}),
            ("record", {1: 3, 2: 1, 3: 0}), ("fn", 6, 5)])

    def test_after_calls_that_are_refused(self):
        before = self.after([])
        for x in range(8):
            again = [plain(x, 1, 9), plain(x, 2), plain(x, 3), fn(x, 0, 1), fn(x, x, x), rows(x, 5), rows(x, 6),
                     rows(x, 5, 1, 0), rows(x, 6, 9, 2)]
            self.assertEqual(ask(*self.defined, *again)[-len(again):], [[-3]] * len(again))
            self.assertEqual(self.after(again), before)
            wrong = [plain(x, 0), plain(x, 1, 256), fn(x, 8, 0), fn(x, 0, BIG), rows(x, 4, 1, 0),
                     rows(x, 5, 1, 0, 1, 1), rows(x, 6, 256, 0), rows(x, 5, 1, 8), rows(x, 5, 1)]
            self.assertEqual(ask(*self.defined, *wrong)[-len(wrong):], [[-1]] * len(wrong))
            self.assertEqual(self.after(wrong), before)

    def test_after_calls_that_are_not_refused(self):
        before = self.after([])
        more = [*made(6), plain(8, 1, 200), plain(9, 3), fn(10, 3, 4), rows(11, 5, 1, 3, 2, 5), rows(12, 6, 1, 12)]
        self.assertEqual(self.after([*more, sub(3, 7), why(7, 3), sub(10, 11), why(12, 5), sub(13, 13)]), before)

    def test_after_bounds_that_are_made(self):
        before = self.after([])
        for a in range(8):
            for b in range(8):
                bounds = [join(a, b), meet(b, a)]
                self.assertEqual([answer[0] for answer in ask_after(self.defined, bounds)], [0, 0])
                self.assertEqual(self.after(bounds), before)

    def test_after_bounds_that_are_refused(self):
        before = self.after([])
        refused = [join(3, 8), meet(9, BIG), join(10, 0), meet(0, 10), join(10, 10), meet(8, 9), join(3, 3), meet(6, 7)]
        full = [*made(56), rows(8, 5, *[n for k in range(8) for n in (k + 10, 0)]), rows(9, 5, 1, 0)]
        self.assertEqual(ask_after([*self.defined, *full], refused),
                         [[-2], [-1], [-4], [-4], [-4], [-6], [-2], [-2]])
        self.assertEqual(self.after([*full, *refused]), before)

    def test_after_all_nodes_are_made(self):
        before = self.after([])
        self.assertEqual(self.after(made(60)), before)

    def test_after_the_same_questions(self):
        answered = ask(*self.defined, *self.questions, *self.questions)
        self.assertEqual(answered[-128:], answered[-256:-128])

    def test_a_node_can_be_defined_just_once_after_refusals(self):
        calls = [*made(2), plain(0, 2), fn(1, 5, 0), rows(1, 5, 3, 0, 3, 0), plain(1, 1, 256), sub(1, 1),
                 rows(1, 5, 3, 0), fn(1, 0, 0), sub(1, 0), why(0, 1)]
        self.assertEqual(ask(*calls)[2:], [[0], [-1], [-1], [-1], [-4], [0], [-3], [0, 1], [0]])

    def test_over_many_rows_of_calls(self):
        for seed in range(60):
            picks = Picks(5000 + seed)
            between = [some_call(picks) for number in range(130)]
            with self.subTest(seed=seed):
                self.assertEqual(self.after(between), self.after([]))

    def test_every_node_over_long_rows_of_calls(self):
        """What a node is, once it's defined, by join and meet too, stays as it is to the end of the list."""
        for seed in range(25):
            picks, model = Picks(7000 + seed), Model()
            calls, since = [], {}
            for number in range(200):
                calls.append(some_likely_call(picks, model))
                model.answer(calls[-1])
                for x, node in enumerate(model.nodes):
                    if node is not None:
                        since.setdefault(x, len(calls))
            for x, length in since.items():
                with self.subTest(seed=seed, x=x):
                    self.assertEqual(shape(calls, x), shape(calls[:length], x))
