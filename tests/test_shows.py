"""W2: what is shown is such a way; and when shows refuses."""

import random
import unittest

from helper import (TOP, all_edge_sets, cut, expected, flat, graph, last, listed, run, shows, some_tree, state_after)

A = [1, 0]
B = [1, 1]


class OneStep(unittest.TestCase):
    BASE = graph([0, 0, 1, 1], [0, 3, 0, 1, 0, 2, 2, 0])

    def test_the_least_state_where_it_holds(self):
        self.assertEqual(last(self.BASE, shows(0, [5, *A])), listed([0, 2]))
        self.assertEqual(last(self.BASE, shows(0, [5, 2, *A])), listed([0, 1]))
        self.assertEqual(last(self.BASE, shows(2, [5, 0])), listed([2, 0]))

    def test_where_one_stays(self):
        self.assertEqual(last(self.BASE, shows(3, [5, *A])), listed([3, 3]))

    def test_it_stops_behind_one_step(self):
        self.assertEqual(last(self.BASE, shows(2, [5, 5, *A])), listed([2, 0]))


class KeptUp(unittest.TestCase):
    def test_a_state_that_stays(self):
        self.assertEqual(last(graph([1]), shows(0, [7, *A])), listed([0, 0]))
        self.assertEqual(last(graph([1], [0, 0]), shows(0, [7, *A])), listed([0, 0]))

    def test_back_to_its_own_beginning(self):
        ring = graph([1, 1, 1], [0, 1, 1, 2, 2, 0])
        self.assertEqual(last(ring, shows(0, [7, *A])), listed([0, 1, 2, 0]))
        self.assertEqual(last(ring, shows(1, [7, *A])), listed([1, 2, 0, 1]))

    def test_back_to_a_later_state(self):
        tail = graph([1, 1, 1, 1], [0, 1, 1, 2, 2, 3, 3, 1])
        self.assertEqual(last(tail, shows(0, [7, *A])), listed([0, 1, 2, 3, 1]))
        end = graph([1, 1, 1], [0, 1, 1, 2])
        self.assertEqual(last(end, shows(0, [7, *A])), listed([0, 1, 2, 2]))

    def test_a_lesser_state_where_it_cannot_be_kept_up_is_passed_over(self):
        # 1 has the mark, but from there one must go to 3, which has not.
        base = graph([1, 1, 1, 0], [0, 1, 0, 2, 1, 3, 2, 2])
        self.assertEqual(last(base, shows(0, [7, *A])), listed([0, 2, 2]))

    def test_the_least_of_several(self):
        base = graph([1, 1, 1], [0, 2, 0, 1, 1, 1, 1, 0, 2, 2])
        self.assertEqual(last(base, shows(0, [7, *A])), listed([0, 1, 0]))

    def test_twelve_states(self):
        ring = graph([1] * 12, [number for s in range(12) for number in (s, (s + 1) % 12)])
        self.assertEqual(last(ring, shows(5, [7, *A])), listed([5, 6, 7, 8, 9, 10, 11, 0, 1, 2, 3, 4, 5]))


class Coming(unittest.TestCase):
    def test_a_way_of_one_state(self):
        self.assertEqual(last(graph([1, 1], [0, 1]), shows(0, [9, *A])), listed([0]))
        self.assertEqual(last(graph([2, 2], [0, 1]), shows(0, [11, *A, *B])), listed([0]))

    def test_the_shortest(self):
        base = graph([0, 0, 0, 1], [0, 1, 1, 2, 2, 3, 0, 2])
        self.assertEqual(last(base, shows(0, [9, *A])), listed([0, 2, 3]))

    def test_the_first_of_several_shortest(self):
        # 0 1 5, 0 1 6, 0 2 5, 0 2 4: the first state that differs decides, not the last.
        base = graph([0, 0, 0, 0, 1, 1, 1], [0, 2, 0, 1, 1, 6, 1, 5, 2, 5, 2, 4])
        self.assertEqual(last(base, shows(0, [9, *A])), listed([0, 1, 5]))

    def test_until_goes_over_states_where_the_first_holds(self):
        # By 1 it would be as short and come before; but 1 has not mark 0.
        base = graph([1, 0, 1, 2], [0, 1, 0, 2, 1, 3, 2, 3])
        self.assertEqual(last(base, shows(0, [9, *B])), listed([0, 1, 3]))
        self.assertEqual(last(base, shows(0, [11, *A, *B])), listed([0, 2, 3]))

    def test_until_takes_a_longer_way_if_it_must(self):
        base = graph([1, 0, 1, 1, 2], [0, 1, 1, 4, 0, 2, 2, 3, 3, 4])
        self.assertEqual(last(base, shows(0, [9, *B])), listed([0, 1, 4]))
        self.assertEqual(last(base, shows(0, [11, *A, *B])), listed([0, 2, 3, 4]))

    def test_until_the_last_state_need_not_have_the_first(self):
        self.assertEqual(last(graph([1, 2], [0, 1]), shows(0, [11, *A, *B])), listed([0, 1]))

    def test_along_twelve_states(self):
        row = graph([1] * 11 + [2], [number for s in range(11) for number in (s, s + 1)])
        self.assertEqual(last(row, shows(0, [9, *B])), listed(list(range(12))))
        self.assertEqual(last(row, shows(0, [11, *A, *B])), listed(list(range(12))))


class Refused(unittest.TestCase):
    BASE = graph([1, 2], [0, 1])

    def check(self, s, formula, number):
        self.assertEqual(last(self.BASE, shows(s, formula)), [number], (s, formula))
        self.assertEqual(state_after(2, self.BASE, shows(s, formula)), state_after(2, self.BASE))

    def test_no_such_state(self):
        for s in (2, 12, TOP):
            self.check(s, [9, 0], -4)

    def test_no_formula(self):
        for formula in ([], [9], [9, 0, 0], [13, 0], [9, 1, 8], [5] * 64 + [0], [9, TOP], [11, 0]):
            self.check(0, formula, -1)

    def test_64_numbers_are_a_formula(self):
        self.assertEqual(last(self.BASE, shows(0, [5] * 63 + [0])), listed([0, 1]))

    def test_it_does_not_hold_there(self):
        for formula in ([5, *A], [7, *A], [9, 1, 2], [11, *B, 1, 2], [11, 2, 0, *B]):
            self.check(0, formula, -5)

    def test_it_begins_with_another_number(self):
        for formula in ([0], A, [2, *B], [3, 0, 0], [4, 0, 0], [6, 0], [8, 0], [10, 0], [12, 0, 0]):
            self.check(0, formula, -3)

    def test_several_due_at_once(self):
        self.check(2, [], -4)
        self.check(TOP, [13], -4)
        self.check(2, [2, 0], -4)
        self.check(2, [0], -4)
        self.check(0, [2, 0, 0], -1)
        self.check(0, [0, 0], -1)
        for formula in ([2, 0], B, [6, *A], [8, *A], [10, 1, 2], [12, *A, 1, 2], [3, *A, *B], [4, *B, *B]):
            self.check(0, formula, -5)


class AgainstTheWays(unittest.TestCase):
    def compare(self, *calls):
        self.assertEqual(run(*calls), expected(*calls), calls)

    def test_all_graphs_of_up_to_three_states(self):
        formulas = [[5, *A], [7, *A], [9, *B], [11, *A, *B]]
        for marks in ([1], [1, 2], [1, 1, 2], [1, 1, 1], [1, 2, 3], [0, 2, 1]):
            asked = [shows(s, f) for s in range(len(marks)) for f in formulas]
            for edges in all_edge_sets(len(marks)):
                self.compare(graph(marks, edges), *asked)

    def test_formulas_within_one_another(self):
        source = random.Random(4)
        for turn in range(800):
            n = source.randrange(1, 7)
            edges = [source.randrange(n) for k in range(2 * source.randrange(2 * n + 1))]
            calls = [graph([source.randrange(4) for s in range(n)], edges)]
            for head in (5, 7, 9, 11, 11):
                behind = [some_tree(source, source.randrange(3)) for k in range(2 if head == 11 else 1)]
                calls.append(shows(source.randrange(n), flat((head, *behind))))
            self.compare(*calls)

    def test_behind_cut(self):
        self.compare(graph([1, 1, 2], [0, 1, 0, 2, 1, 2]), shows(0, [9, *B]), cut(0, 2), shows(0, [9, *B]), cut(1, 2),
                     shows(0, [9, *B]), shows(0, [7, *A]))


if __name__ == "__main__":
    unittest.main()
