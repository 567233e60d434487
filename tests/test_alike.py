"""W3 and W4: which states are alike, the graph of their classes; and the graph as told."""

import random
import unittest

from helper import (TOP, alike, all_edge_sets, call_of, classed, cut, edge, expected, flat, graph, holds, laid_graph,
                    last, mark, row_of, run, small, some_graph, some_tree, state_after, tells, told)

RING = row_of(12) + [11, 0]


def compare(case, *calls):
    case.assertEqual(run(*calls), expected(*calls), calls)


class Classes(unittest.TestCase):
    def check(self, marks, edges, classes):
        self.assertEqual(last(graph(marks, edges), alike()), classed(classes))

    def test_one_state(self):
        self.check([0], [], [0])
        self.check([255], [0, 0], [0])

    def test_all_alike(self):
        self.check([3] * 12, RING, [0] * 12)
        self.check([3] * 12, [], [0] * 12)
        self.check([5, 5, 5], [0, 1, 0, 2, 1, 1], [0, 0, 0])

    def test_none_alike(self):
        self.check(list(range(12)), [], list(range(12)))
        self.check([0] * 11 + [1], row_of(12), list(range(12)))
        self.check([1] + [0] * 11, RING, list(range(12)))

    def test_some_alike(self):
        self.check([1, 0, 1, 0], [0, 1, 2, 3], [0, 1, 0, 1])
        self.check([0, 0, 1, 1], [0, 3, 1, 2, 2, 0, 3, 1], [0, 0, 2, 2])
        self.check([1, 0] * 6, RING, [0, 1] * 6)
        self.check([1, 0, 0] * 4, RING, [0, 1, 2] * 4)

    def test_by_the_least_state_not_in_the_order_of_marks(self):
        self.check([9, 4, 4, 9, 0], [], [0, 1, 1, 0, 4])

    def test_each_mark_parts(self):
        for m in range(8):
            self.check([255, 255 - 2 ** m, 255], [], [0, 1, 0])
            self.check([0, 2 ** m, 0], [], [0, 1, 0])

    def test_marks_part_though_one_goes_on_to_the_same(self):
        self.check([0, 1, 2], [0, 2, 1, 2], [0, 1, 2])

    def test_without_edges_one_stays(self):
        self.check([6, 6], [1, 1], [0, 0])
        self.check([6, 6], [0, 1], [0, 0])
        self.check([6, 6, 7], [1, 1, 1, 2], [0, 1, 2])
        self.check([6, 6, 7], [1, 2], [0, 1, 2])

    def test_how_many_edges_is_not_asked(self):
        self.check([0, 0, 1, 1], [0, 2, 1, 2, 1, 3], [0, 0, 2, 2])

    def test_going_on_to_more_classes_parts(self):
        self.check([0, 0, 1, 2], [0, 2, 1, 2, 1, 3], [0, 1, 2, 3])
        self.check([0, 0, 1, 2], [0, 2, 0, 3, 1, 2], [0, 1, 2, 3])

    def test_parted_in_round_1_and_alike_again_by_a_cut(self):
        base = graph([0, 0, 1, 1], [0, 2, 1, 3, 1, 1])
        self.assertEqual(run(base, alike(), cut(1, 1), alike()),
                         [[4], classed([0, 1, 2, 2]), [0], classed([0, 0, 2, 2])])

    def test_classes_of_a_round_are_not_yet_those_of_the_next(self):
        # 0 and 1 go on to 2 and 3, that only round 2 parts, by 4 and 5 that round 1 parts.
        self.check([0, 0, 1, 1, 2, 2, 3], [0, 2, 1, 3, 2, 4, 3, 5, 5, 6], [0, 1, 2, 3, 4, 5, 6])

    def test_parted_in_a_late_round(self):
        for n in range(2, 13):
            self.check([0] * (n - 1) + [1], row_of(n), list(range(n)))
        # Two rows, of which one ends without a mark: those without one before them are alike.
        self.check([0] * 5 + [1] + [0] * 6, row_of(6) + [6, 7, 7, 8, 8, 9, 9, 10, 10, 11],
                   [0, 1, 2, 3, 4, 5] + [6] * 6)

    def test_against_the_reference(self):
        for marks in ([1], [1, 1], [1, 2], [1, 1, 1], [1, 1, 2], [1, 2, 1], [0, 2, 2], [1, 2, 3]):
            for edges in all_edge_sets(len(marks)):
                compare(self, graph(marks, edges), alike(), small(), told())
        source = random.Random(9)
        for turn in range(500):
            compare(self, graph(*some_graph(source, 12)), alike(), small(), told())


class OfClasses(unittest.TestCase):
    def check(self, marks, edges, small_marks, small_edges):
        self.assertEqual(last(graph(marks, edges), small()), laid_graph(small_marks, small_edges))

    def test_as_the_interface_shows_it(self):
        self.assertEqual(last(graph([1, 0, 0, 2], [0, 2, 2, 3, 3, 0]), small()),
                         [4, 4, 1, 0, 0, 2, 8, 0, 2, 1, 1, 2, 3, 3, 0])

    def test_one_state(self):
        self.check([7], [], [7], [0, 0])
        self.check([7], [0, 0], [7], [0, 0])

    def test_all_alike(self):
        self.check([3] * 12, RING, [3], [0, 0])
        self.check([255] * 12, [], [255], [0, 0])

    def test_none_alike(self):
        self.check([1] + [0] * 11, RING, [1] + [0] * 11, row_of(12) + [11, 0])
        self.check([5, 4, 3], [2, 0, 2, 1, 0, 2], [5, 4, 3], [0, 2, 1, 1, 2, 0, 2, 1])

    def test_some_alike(self):
        self.check([1, 0, 0] * 4, RING, [1, 0, 0], [0, 1, 1, 2, 2, 0])
        self.check([8, 4, 8, 4, 2], [0, 1, 2, 3, 2, 1, 1, 4, 3, 4, 4, 2, 4, 1], [8, 4, 2], [0, 1, 1, 2, 2, 0, 2, 1])

    def test_in_the_order_of_the_least_states(self):
        self.check([9, 9, 0, 4], [3, 2, 2, 1], [9, 0, 4], [0, 0, 1, 0, 2, 1])

    def test_edges_within_a_class(self):
        self.check([1, 1, 2], [0, 1, 1, 0, 2, 0, 2, 1], [1, 2], [0, 0, 1, 0])

    def test_an_edge_to_itself_where_one_stays(self):
        self.check([1, 2], [0, 1], [1, 2], [0, 1, 1, 1])
        self.check([1, 2, 2], [0, 1, 0, 2, 2, 2], [1, 2], [0, 1, 1, 1])

    def test_by_from_then_to(self):
        self.check([1, 2, 3], [2, 2, 2, 1, 1, 2, 0, 2, 2, 0, 0, 1, 1, 0], [1, 2, 3],
                   [0, 1, 0, 2, 1, 0, 1, 2, 2, 0, 2, 1, 2, 2])

    def test_the_graph_stays_as_it_was(self):
        base = graph([1, 1, 2], [0, 2, 1, 2])
        for call in (small(), alike(), told(), tells(0, 2)):
            self.assertEqual(state_after(3, base, call), state_after(3, base))
        self.assertEqual(run(base, small(), told(), small(), told())[1:], 2 * [
            laid_graph([1, 2], [0, 1, 1, 1]), laid_graph([1, 1, 2], [0, 2, 1, 2])])


class Told(unittest.TestCase):
    def check(self, marks, edges, told_edges):
        self.assertEqual(last(graph(marks, edges), told()), laid_graph(marks, told_edges))

    def test_only_the_edges_that_there_are(self):
        self.check([0], [], [])
        self.check([0], [0, 0], [0, 0])
        self.check([255] * 12, [], [])
        self.check([1, 2], [0, 1], [0, 1])

    def test_by_from_then_to_each_once(self):
        self.check([3, 1, 2], [2, 2, 0, 1, 2, 0, 0, 1, 1, 2, 2, 0], [0, 1, 1, 2, 2, 0, 2, 2])

    def test_alike_ones_are_not_made_one(self):
        self.check([3] * 12, RING, row_of(12) + [11, 0])

    def test_all_edges(self):
        pairs = [number for s in range(12) for t in range(12) for number in (s, t)]
        self.check([4] * 12, pairs, pairs)

    def test_behind_edge_cut_and_mark(self):
        self.assertEqual(run(graph([1, 2], [1, 0]), edge(0, 1), edge(0, 0), told(), cut(0, 1), mark(1, 9), told(),
                             cut(0, 0), cut(1, 0), told()),
                         [[2], [0], [0], laid_graph([1, 2], [0, 0, 0, 1, 1, 0]), [0], [2],
                          laid_graph([1, 9], [0, 0, 1, 0]), [0], [0], laid_graph([1, 9])])

    def test_handed_in_again_it_is_the_same(self):
        source = random.Random(10)
        for turn in range(100):
            row = last(graph(*some_graph(source, 12)), told())
            self.assertEqual(last(call_of(row), told()), row)

    def test_behind_refused_calls(self):
        base = graph([1, 2], [1, 0])
        for call in (graph([256]), edge(1, 0), edge(2, 0), cut(0, 1), cut(0, TOP), mark(0, 256), mark(2, 0), holds([]),
                     tells(0, 2), tells(0, 0)):
            self.assertLess(run(base, call)[1][0], 0)
            self.assertEqual(run(base, call, told())[2], laid_graph([1, 2], [1, 0]))


class WhatCarriesIt(unittest.TestCase):
    """Over the program's own answers: no formula tells alike ones apart, and small keeps what holds."""

    def graphs(self, seed, many):
        source = random.Random(seed)
        for turn in range(many):
            marks, edges = some_graph(source, 12)
            formulas = [flat(some_tree(source, source.randrange(1, 5))) for k in range(12)]
            yield graph(marks, edges), [holds(f) for f in formulas if len(f) <= 64]

    def test_no_formula_tells_alike_ones_apart(self):
        together = 0
        for base, asked in self.graphs(11, 250):
            rows = run(base, alike(), *asked)[1:]
            classes = rows[0][2:]
            for row in rows[1:]:
                for s, least in enumerate(classes):
                    together += s != least
                    self.assertEqual(s in row[2:], least in row[2:], (base, classes, row))
        self.assertGreater(together, 1000)

    def test_a_formula_tells_those_apart_that_are_not_alike(self):
        for base, asked in self.graphs(12, 60):
            classes = last(base, alike())[2:]
            pairs = [(s, t) for s in range(len(classes)) for t in range(len(classes))][:50]
            for (s, t), row in zip(pairs, run(base, *[tells(s, t) for s, t in pairs])[1:]):
                self.assertEqual(row == [-5], classes[s] == classes[t])

    def test_in_the_graph_of_classes_holds_what_holds_here(self):
        for base, asked in self.graphs(13, 250):
            rows = run(base, alike(), small(), *asked)[1:]
            classes = rows[0][2:]
            order = sorted(set(classes))
            again = run(call_of(rows[1]), *asked)[1:]
            for here, there in zip(rows[2:], again):
                self.assertEqual(here[2:], [s for s, least in enumerate(classes) if order.index(least) in there[2:]])

    def test_small_again_is_the_same(self):
        for base, asked in self.graphs(14, 250):
            row = last(base, small())
            n = row[0]
            self.assertEqual(run(call_of(row), small(), told(), alike()), [[n], row, row, classed(list(range(n)))])


if __name__ == "__main__":
    unittest.main()
