"""W1: a formula holds just where the ways are as it says; and what is no formula is refused."""

import random
import unittest

from helper import (TOP, all_edge_sets, cut, edge, expected, flat, graph, holds, last, listed, mark, run, some_tree,
                    state_after)

# Mark 0 at 0 and 2, mark 1 at 2 and 3. From 0 to 1 and 2, from 1 to 3; 2 leads to itself; 3 has no edge.
BASE = graph([1, 0, 3, 2], [0, 1, 0, 2, 1, 3, 2, 2])
A = [1, 0]
B = [1, 1]


class EachFormula(unittest.TestCase):
    def check(self, formula, states):
        self.assertEqual(last(BASE, holds(formula)), listed(states))

    def test_0_always(self):
        self.check([0], [0, 1, 2, 3])

    def test_1_mark(self):
        self.check(A, [0, 2])
        self.check(B, [2, 3])
        self.check([1, 2], [])

    def test_2_not(self):
        self.check([2, *A], [1, 3])
        self.check([2, 0], [])
        self.check([2, 2, *B], [2, 3])

    def test_3_both(self):
        self.check([3, *A, *B], [2])
        self.check([3, 0, *B], [2, 3])

    def test_4_one_of_them_or_both(self):
        self.check([4, *A, *B], [0, 2, 3])
        self.check([4, 0, *B], [0, 1, 2, 3])

    def test_5_some_state_to_which_one_goes_on(self):
        self.check([5, *A], [0, 2])
        self.check([5, 2, *A], [0, 1, 3])

    def test_6_all_states_to_which_one_goes_on(self):
        self.check([6, *A], [2])
        self.check([6, *B], [1, 2, 3])

    def test_7_kept_up_on_some_way(self):
        self.check([7, *A], [0, 2])
        self.check([7, *B], [2, 3])
        self.check([7, 2, *A], [1, 3])

    def test_8_kept_up_on_all_ways(self):
        self.check([8, *A], [2])
        self.check([8, 2, *A], [1, 3])

    def test_9_comes_on_some_way(self):
        self.check([9, 3, *A, *B], [0, 2])
        self.check([9, 2, *A], [0, 1, 3])

    def test_10_comes_on_all_ways(self):
        self.check([10, 3, *A, *B], [2])
        self.check([10, 2, *A], [1, 3])
        self.check([10, *B], [0, 1, 2, 3])

    def test_11_until_on_some_way(self):
        self.check([11, *A, *B], [0, 2, 3])
        self.check([11, 2, *A, *B], [1, 2, 3])

    def test_12_until_on_all_ways(self):
        self.check([12, *A, *B], [2, 3])
        self.check([12, 2, *A, *B], [1, 2, 3])

    def test_the_first_state_is_on_the_way(self):
        alone = graph([1, 2], [0, 1])
        for f in (9, 10):
            self.assertEqual(last(alone, holds([f, *A])), listed([0]))
        for f in (11, 12):
            self.assertEqual(last(alone, holds([f, 2, 0, *A])), listed([0]))
        for f in (7, 8):
            self.assertEqual(last(alone, holds([f, *B])), listed([1]))

    def test_going_round_for_ever_never_comes_to_it(self):
        ring = graph([0, 0, 1], [0, 1, 1, 0, 1, 2])
        self.assertEqual(last(ring, holds([9, *A])), listed([0, 1, 2]))
        self.assertEqual(last(ring, holds([10, *A])), listed([2]))
        self.assertEqual(last(ring, holds([12, 0, *A])), listed([2]))
        self.assertEqual(last(ring, holds([7, 2, *A])), listed([0, 1]))

    def test_one_stays_where_there_is_no_edge(self):
        one = graph([1])
        for f in (5, 6, 7, 8, 9, 10):
            self.assertEqual(last(one, holds([f, *A])), listed([0]))
            self.assertEqual(last(one, holds([f, *B])), listed([]))

    def test_every_mark(self):
        for m in range(8):
            self.assertEqual(last(graph([2 ** m, 255 - 2 ** m, 255, 0]), holds([1, m])), listed([0, 2]))


class AgainstTheWays(unittest.TestCase):
    def compare(self, *calls):
        self.assertEqual(run(*calls), expected(*calls), calls)

    def test_all_graphs_of_up_to_three_states(self):
        asked = [holds([f, *A]) for f in (5, 6, 7, 8, 9, 10)]
        asked += [holds([f, *A, *B]) for f in (11, 12)]
        for marks in ([0], [1], [3, 0], [1, 2], [0, 1, 2], [1, 1, 2], [1, 0, 1], [3, 1, 0]):
            for edges in all_edge_sets(len(marks)):
                self.compare(graph(marks, edges), *asked)

    def test_formulas_within_one_another(self):
        source = random.Random(1)
        for turn in range(600):
            n = source.randrange(1, 7)
            edges = [source.randrange(n) for k in range(2 * source.randrange(2 * n + 1))]
            trees = [some_tree(source, source.randrange(1, 4)) for k in range(5)]
            formulas = [flat(tree) for tree in trees]
            self.compare(graph([source.randrange(4) for s in range(n)], edges), *[holds(f) for f in formulas])

    def test_twelve_states(self):
        source = random.Random(2)
        for turn in range(30):
            edges = [t for s in range(12) for k in range(source.randrange(3)) for t in (s, source.randrange(12))]
            formulas = [flat(some_tree(source, 2)) for k in range(4)]
            self.compare(graph([source.randrange(4) for s in range(12)], edges), *[holds(f) for f in formulas])

    def test_a_ring_of_twelve(self):
        ring = graph([0] * 11 + [1], [number for s in range(12) for number in (s, (s + 1) % 12)])
        self.compare(ring, holds([9, *A]), holds([10, *A]), holds([5] * 11 + A), cut(3, 4), holds([9, *A]),
                     holds([10, *A]), edge(3, 3), holds([7, 2, *A]), mark(3, 1), holds([10, *A]), holds([8, 9, *A]))


class WhatIsNoFormula(unittest.TestCase):
    def check_refused(self, formula):
        self.assertEqual(run(BASE, holds(formula)), [[4], [-1]], formula)
        self.assertEqual(state_after(4, BASE, holds(formula)), state_after(4, BASE))

    def test_the_empty_list(self):
        self.check_refused([])

    def test_something_left_over(self):
        for formula in ([0, 0], [1, 0, 0], [2, 0, 0], [3, 0, 0, 0], [11, 0, 1, 7, 1], [0, TOP], [0, 13]):
            self.check_refused(formula)

    def test_it_ends_too_early(self):
        for formula in ([1], [2], [3], [3, 0], [4, 1, 0], [5], [6], [7], [8], [9], [10], [11, 0], [12, 1, 0],
                        [3, 3, 0, 0], [11, 0, 1], [2, 1]):
            self.check_refused(formula)

    def test_marks_in_a_formula(self):
        self.assertEqual(last(graph([128]), holds([1, 7])), listed([0]))
        for m in (8, 9, 255, TOP):
            self.check_refused([1, m])
            self.check_refused([3, 0, 1, m])

    def test_a_number_of_13_or_more(self):
        self.assertEqual(last(BASE, holds([12, 0, 0])), listed([0, 1, 2, 3]))
        for number in (13, 14, 255, TOP):
            for formula in ([number], [number, 0], [number, 0, 0], [2, number], [3, 0, number]):
                self.check_refused(formula)

    def test_64_numbers_and_65(self):
        self.assertEqual(last(BASE, holds([2] * 63 + [0])), listed([]))
        self.assertEqual(last(BASE, holds([2] * 62 + A)), listed([0, 2]))
        self.assertEqual(last(BASE, holds([2] + [4] * 31 + [0] * 32)), listed([]))
        self.assertEqual(last(BASE, holds([5] * 62 + A)), listed([0, 2]))
        self.assertEqual(last(BASE, holds([2, 2, *([3] * 20), *(A * 21)])), listed([0, 2]))
        self.check_refused([2] * 64 + [0])
        self.check_refused([2] * 63 + A)
        self.check_refused([3] * 32 + [0] * 33)
        self.check_refused([2] * 99 + [0])
        self.check_refused([TOP] * 100)

    def test_no_shorter_formula_is_cut_out_of_a_long_one(self):
        self.check_refused([0] * 65)
        self.check_refused([0] * 100)

    def test_any_list_of_small_numbers(self):
        source = random.Random(3)
        for turn in range(3000):
            formula = [source.randrange(14) for k in range(source.randrange(7))]
            self.assertEqual(run(BASE, holds(formula)), expected(BASE, holds(formula)), formula)


if __name__ == "__main__":
    unittest.main()
