"""W1, of far: the fewest steps to where a formula holds; and when far refuses."""

import random
import unittest

from helper import (TOP, all_edge_sets, cut, edge, expected, far, flat, graph, holds, last, listed, mark, row_of, run,
                    shows, some_graph, some_tree, state_after)

A = [1, 0]
B = [1, 1]


class Steps(unittest.TestCase):
    def test_none_where_it_holds_itself(self):
        self.assertEqual(last(graph([1, 1], [0, 1]), far(0, A)), [0])
        self.assertEqual(last(graph([1]), far(0, [0])), [0])
        self.assertEqual(last(graph([0, 1], [0, 1]), far(0, [2, *A])), [0])

    def test_one_and_more(self):
        base = graph([0, 0, 0, 1], row_of(4))
        self.assertEqual(run(base, *[far(s, A) for s in range(4)])[1:], [[3], [2], [1], [0]])

    def test_the_fewest(self):
        base = graph([0, 0, 0, 1], row_of(4) + [0, 2])
        self.assertEqual(run(base, far(0, A), edge(0, 3), far(0, A))[1:], [[2], [0], [1]])

    def test_it_need_not_be_the_least_state(self):
        self.assertEqual(last(graph([0, 0, 1, 1], [0, 1, 1, 2, 0, 3]), far(0, A)), [1])

    def test_any_states_lie_between(self):
        # 11 would ask that something holds on the way; far asks nothing of it.
        self.assertEqual(last(graph([0, 128, 3, 255], row_of(4)), far(0, [1, 6])), [3])

    def test_along_twelve_states(self):
        row = graph([0] * 11 + [2], row_of(12))
        self.assertEqual(run(row, *[far(s, B) for s in range(12)])[1:], [[11 - s] for s in range(12)])

    def test_round_a_ring(self):
        ring = graph([1] + [0] * 11, row_of(12) + [11, 0])
        self.assertEqual(run(ring, *[far(s, A) for s in range(12)])[1:], [[0]] + [[12 - s] for s in range(1, 12)])

    def test_formulas_that_speak_of_ways(self):
        base = graph([0, 0, 1, 1], row_of(4))
        self.assertEqual(last(base, far(0, [7, *A])), [2])
        self.assertEqual(last(base, far(0, [5, *A])), [1])
        self.assertEqual(last(base, far(0, [9, *A])), [0])

    def test_the_graph_as_it_is_then(self):
        base = graph([0, 0, 1], row_of(3))
        self.assertEqual(run(base, far(0, A), mark(1, 1), far(0, A), mark(1, 0), cut(1, 2), far(0, A), edge(0, 2),
                             far(0, A)),
                         [[3], [2], [0], [1], [1], [0], [-5], [0], [1]])


class Refused(unittest.TestCase):
    BASE = graph([1, 2], [0, 1])

    def check(self, s, formula, number):
        self.assertEqual(last(self.BASE, far(s, formula)), [number], (s, formula))
        self.assertEqual(state_after(2, self.BASE, far(s, formula)), state_after(2, self.BASE))

    def test_no_such_state(self):
        for s in (2, 12, TOP):
            self.check(s, [0], -4)

    def test_no_formula(self):
        for formula in ([], [9], [0, 0], [13], [1], [1, 8], [1, TOP], [TOP], [5] * 64 + [0], [3, 0], [2] * 100):
            self.check(0, formula, -1)

    def test_64_numbers_are_a_formula(self):
        self.check(0, [5] * 63 + [0], 0)
        self.check(0, [5] * 62 + B, 0)

    def test_none_can_be_come_to(self):
        self.check(1, A, -5)
        self.check(0, [1, 7], -5)
        self.check(0, [2, 0], -5)

    def test_several_due_at_once(self):
        self.check(2, [], -4)
        self.check(TOP, [13], -4)
        self.check(2, [2, 0], -4)
        self.check(1, [2, 0, 0], -1)


class AgainstTheWays(unittest.TestCase):
    def compare(self, *calls):
        self.assertEqual(run(*calls), expected(*calls), calls)

    def test_all_graphs_of_up_to_three_states(self):
        for marks in ([1], [0], [0, 1], [0, 0, 1], [0, 1, 1], [1, 0, 0]):
            asked = [far(s, f) for s in range(len(marks)) for f in (A, [2, *A], [7, *A])]
            for edges in all_edge_sets(len(marks)):
                self.compare(graph(marks, edges), *asked)

    def test_formulas_within_one_another(self):
        source = random.Random(6)
        for turn in range(400):
            marks, edges = some_graph(source)
            trees = [some_tree(source, source.randrange(4)) for k in range(6)]
            self.compare(graph(marks, edges), *[far(source.randrange(len(marks)), flat(tree)) for tree in trees])

    def test_as_long_as_the_way_that_shows_it(self):
        source = random.Random(7)
        for turn in range(300):
            marks, edges = some_graph(source, 12)
            formula = flat(some_tree(source, 2))
            s = source.randrange(len(marks))
            steps, way = run(graph(marks, edges), far(s, formula), shows(s, [9, *formula]))[1:]
            self.assertEqual(steps, [-5] if way == [-5] else [way[0] - 1])

    def test_it_can_be_come_to_just_where_9_holds(self):
        source = random.Random(8)
        for turn in range(200):
            marks, edges = some_graph(source, 12)
            formula = flat(some_tree(source, 2))
            rows = run(graph(marks, edges), holds([9, *formula]), *[far(s, formula) for s in range(len(marks))])
            self.assertEqual(rows[1], listed([s for s, steps in enumerate(rows[2:]) if steps != [-5]]))


if __name__ == "__main__":
    unittest.main()
