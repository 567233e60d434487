"""W5: what tells s from t holds at s and not at t; and when tells refuses."""

import random
import tracemalloc
import unittest

from helper import (TOP, Reference, alike, all_edge_sets, cut, edge, expected, graph, holds, last, listed, mark, row_of,
                    run, small, some_graph, state_after, tells, told, whole_tree)

# From each but the first one goes on to all but the one before it: round n parts n from those behind it.
ALL_BUT_ONE = graph([1] + [0] * 11, [number for s in range(12) for t in range(12) if t != s - 1 for number in (s, t)])

# What tells 4 from 0 has 400 numbers, what tells 0 from 4 one more.
AT_THE_LIMIT = graph([0, 0, 1, 0, 0, 0, 0], [
    0, 0, 0, 1, 0, 4, 1, 1, 1, 3, 2, 0, 2, 3, 2, 4, 3, 0, 3, 4, 3, 5, 3, 6, 4, 0, 4, 1, 4, 4, 4, 6,
    5, 0, 5, 1, 5, 2, 5, 4, 5, 5, 6, 3, 6, 4, 6, 6])


class ByMarks(unittest.TestCase):
    def check(self, here, there, formula):
        self.assertEqual(last(graph([here, there]), tells(0, 1)), listed(formula))

    def test_s_has_it(self):
        for m in range(8):
            self.check(2 ** m, 0, [1, m])
            self.check(255, 255 - 2 ** m, [1, m])

    def test_t_has_it(self):
        for m in range(8):
            self.check(0, 2 ** m, [2, 1, m])
            self.check(255 - 2 ** m, 255, [2, 1, m])

    def test_the_least_of_several(self):
        for m in range(8):
            self.check(256 - 2 ** m, 0, [1, m])
            self.check(0, 256 - 2 ** m, [2, 1, m])
        self.check(255, 0, [1, 0])
        self.check(0, 255, [2, 1, 0])
        self.check(0b10100100, 0b00010100, [2, 1, 4])
        self.check(0b10100100, 0b01000100, [1, 5])
        self.check(0b10000000, 0b01000000, [2, 1, 6])
        self.check(0b01000000, 0b10000000, [1, 6])

    def test_marks_come_ahead_of_where_one_goes_on(self):
        base = graph([1, 0, 4, 8], [0, 2, 1, 3])
        self.assertEqual(run(base, tells(0, 1), tells(1, 0))[1:], [listed([1, 0]), listed([2, 1, 0])])


class ByWhereOneGoesOn(unittest.TestCase):
    def check(self, marks, edges, s, t, formula):
        self.assertEqual(last(graph(marks, edges), tells(s, t)), listed(formula))

    def test_of_one(self):
        self.check([0, 0, 1, 2], [0, 2, 1, 3], 0, 1, [5, 1, 0])
        self.check([0, 0, 1, 2], [0, 2, 1, 3], 1, 0, [5, 2, 1, 0])

    def test_of_two(self):
        self.check([0, 0, 1, 2, 4], [0, 2, 1, 3, 1, 4], 0, 1, [5, 3, 1, 0, 1, 0])
        self.check([0, 0, 4, 2, 1], [0, 2, 1, 3, 1, 4], 0, 1, [5, 3, 2, 1, 1, 2, 1, 0])

    def test_of_more(self):
        # The first, then the others joined: 3 a 3 b c, and so on.
        self.check([0, 0, 4, 1, 2, 8], [0, 2, 1, 3, 1, 4, 1, 5], 0, 1, [5, 3, 2, 1, 0, 3, 2, 1, 1, 1, 2])
        self.check([0, 0, 4, 1, 2, 8, 16], [0, 2, 1, 6, 1, 3, 1, 4, 1, 5], 0, 1,
                   [5, 3, 2, 1, 0, 3, 2, 1, 1, 3, 1, 2, 1, 2])

    def test_the_other_way_round(self):
        # Wherever 0 goes on, 1 does too, but not the other way round.
        self.check([0, 0, 1, 2], [0, 2, 1, 2, 1, 3], 0, 1, [2, 5, 2, 1, 0])
        self.check([0, 0, 1, 2], [0, 2, 1, 2, 1, 3], 1, 0, [5, 2, 1, 0])
        self.check([0, 0, 1, 2, 4], [0, 2, 0, 3, 1, 2, 1, 3, 1, 4], 0, 1, [2, 5, 3, 2, 1, 0, 2, 1, 1])
        self.check([0, 0, 1, 2, 4, 8], [0, 2, 0, 3, 0, 4, 1, 2, 1, 3, 1, 4, 1, 5], 0, 1,
                   [2, 5, 3, 2, 1, 0, 3, 2, 1, 1, 2, 1, 2])

    def test_s_comes_ahead_of_t(self):
        # Each goes on to a class to which the other does not.
        self.check([0, 0, 1, 2, 4], [0, 3, 0, 4, 1, 2, 1, 4], 0, 1, [5, 3, 2, 1, 0, 1, 1])
        self.check([0, 0, 1, 2, 4], [0, 3, 0, 4, 1, 2, 1, 4], 1, 0, [5, 3, 1, 0, 1, 0])

    def test_the_least_such_state(self):
        self.check([0, 0, 8, 2, 4], [0, 4, 0, 3, 1, 2], 0, 1, [5, 1, 1])
        self.check([0, 0, 8, 2, 4], [0, 4, 0, 3, 0, 2, 1, 2], 0, 1, [5, 1, 1])
        self.check([0, 0, 8, 2, 4], [0, 4, 0, 3, 0, 2, 1, 2], 1, 0, [2, 5, 1, 1])

    def test_each_state_to_which_one_goes_on_though_some_are_alike(self):
        self.check([0, 0, 1, 2, 2], [0, 2, 1, 3, 1, 4], 0, 1, [5, 3, 1, 0, 1, 0])

    def test_a_state_alike_to_one_of_the_other_is_passed_over(self):
        # 0 goes on to 2, alike to 3, to which 1 goes on: so 4 it is.
        self.check([0, 0, 1, 1, 4], [0, 2, 0, 4, 1, 3], 0, 1, [5, 2, 1, 0])

    def test_classes_are_those_of_the_round_before(self):
        # Round 1 parts 0 and 1 by 4. Later rounds part 2 and 3, too, but by round 0 these are one class.
        base = graph([0, 0, 1, 1, 2, 4], [0, 2, 0, 4, 1, 3, 3, 5])
        self.assertEqual(last(base, alike()), [6, 6, 0, 1, 2, 3, 4, 5])
        self.assertEqual(run(base, tells(0, 1), tells(1, 0))[1:], [listed([5, 2, 1, 0]), listed([2, 5, 2, 1, 0])])

    def test_where_one_stays(self):
        self.check([0, 0, 1], [0, 2], 0, 1, [5, 1, 0])
        self.check([0, 0, 1], [0, 2], 1, 0, [5, 2, 1, 0])
        self.check([0, 0, 1], [0, 0, 0, 2], 0, 1, [5, 1, 0])
        self.check([0, 0, 1], [0, 0, 0, 2], 1, 0, [2, 5, 1, 0])

    def test_in_every_round_up_to_the_last_that_twelve_states_give(self):
        row = graph([0] * 11 + [8], row_of(12))
        for t in range(11):
            for s in range(t + 1, 12):
                self.assertEqual(last(row, tells(s, t)), listed([5] * (11 - s) + [1, 3]))
                self.assertEqual(last(row, tells(t, s)), listed([5] * (11 - s) + [2, 1, 3]))

    def test_the_graph_as_it_is_then(self):
        base = graph([0, 0, 1], [0, 2])
        self.assertEqual(run(base, tells(0, 1), mark(0, 4), tells(0, 1), mark(1, 4), tells(0, 1), edge(1, 2),
                             tells(0, 1), cut(0, 2), tells(0, 1), mark(2, 4), tells(0, 1)),
                         [[3], listed([5, 1, 0]), [0], listed([1, 2]), [0], listed([5, 1, 0]), [0], [-5],
                          [0], listed([5, 2, 1, 0]), [1], [-5]])


class Long(unittest.TestCase):
    def test_400_numbers(self):
        row = last(AT_THE_LIMIT, tells(4, 0))
        self.assertEqual(row[:2], [400, 400])
        self.assertEqual(len(row), 402)
        self.assertEqual([row], expected(AT_THE_LIMIT, tells(4, 0))[1:])

    def test_401_numbers(self):
        self.assertEqual(last(AT_THE_LIMIT, tells(0, 4)), [-6])

    def test_a_few_fewer(self):
        self.assertEqual(last(ALL_BUT_ONE, tells(2, 3))[:2], [355, 355])
        self.assertEqual(last(ALL_BUT_ONE, tells(3, 2))[:2], [354, 354])

    def test_very_many_more(self):
        for s, t in ((3, 4), (4, 3), (6, 7), (10, 11), (11, 10), (11, 5)):
            self.assertEqual(last(ALL_BUT_ONE, tells(s, t)), [-6])

    def test_how_many_it_would_have(self):
        # That the graph above asks what it is there to ask: some 200 million numbers.
        reference = Reference()
        reference.answer(ALL_BUT_ONE)
        self.assertEqual(reference.told_length(reference.parted(), 10, 11, {}), 200073725)
        reference.answer(AT_THE_LIMIT)
        self.assertEqual(reference.told_length(reference.parted(), 4, 0, {}), 400)
        self.assertEqual(reference.told_length(reference.parted(), 0, 4, {}), 401)

    def test_it_is_not_made_to_see_that_it_is_too_long(self):
        tracemalloc.start()
        try:
            rows = run(ALL_BUT_ONE, *[tells(10, 11), tells(11, 10)] * 29)
            most = tracemalloc.get_traced_memory()[1]
        finally:
            tracemalloc.stop()
        self.assertEqual(rows[1:], [[-6]] * 58)
        self.assertLess(most, 10_000_000)


class Refused(unittest.TestCase):
    BASE = graph([1, 1, 2], [0, 2, 1, 2])

    def check(self, base, n, s, t, number):
        self.assertEqual(last(base, tells(s, t)), [number], (s, t))
        self.assertEqual(state_after(n, base, tells(s, t)), state_after(n, base))

    def test_no_such_state(self):
        for s, t in ((3, 0), (0, 3), (3, 3), (12, 0), (TOP, 0), (0, TOP), (TOP, TOP)):
            self.check(self.BASE, 3, s, t, -4)

    def test_alike(self):
        for s, t in ((0, 1), (1, 0), (0, 0), (2, 2)):
            self.check(self.BASE, 3, s, t, -5)

    def test_alike_where_what_tells_others_is_too_long(self):
        self.check(ALL_BUT_ONE, 12, 7, 7, -5)

    def test_too_long(self):
        self.check(ALL_BUT_ONE, 12, 8, 9, -6)

    def test_no_such_state_comes_ahead_of_alike(self):
        self.check(graph([0]), 1, 1, 1, -4)
        self.check(graph([0] * 12), 12, 11, 12, -4)


class WhatCarriesIt(unittest.TestCase):
    """Over the program's own answers: it holds at the one and not at the other."""

    def check(self, base, n):
        pairs = [(s, t) for s in range(n) for t in range(n)]
        counts = {-5: 0, -6: 0, "short": 0, "long": 0}
        classes = last(base, alike())[2:]
        for start in range(0, len(pairs), 29):
            some = pairs[start:start + 29]
            rows = run(base, *[tells(s, t) for s, t in some])[1:]
            for (s, t), row in zip(some, rows):
                self.assertEqual(row == [-5], classes[s] == classes[t])
                counts[self.kind(base, s, t, row)] += 1
        return counts

    def kind(self, base, s, t, row):
        if len(row) == 1:
            self.assertIn(row[0], (-5, -6))
            return row[0]
        formula = row[2:]
        self.assertEqual(row[:2], [len(formula)] * 2)
        where = last(base, holds(formula))[2:] if len(formula) <= 64 else self.slowly(base, formula)
        self.assertIn(s, where, (base, s, t, formula))
        self.assertNotIn(t, where, (base, s, t, formula))
        return "short" if len(formula) <= 64 else "long"

    def slowly(self, base, formula):
        reference = Reference()
        reference.answer(base)
        return reference.where(whole_tree(formula))

    def test_all_graphs_of_up_to_three_states(self):
        for marks in ([1], [1, 1], [1, 2], [1, 1, 2], [2, 1, 1], [1, 3, 1]):
            for edges in all_edge_sets(len(marks)):
                self.check(graph(marks, edges), len(marks))

    def test_larger_graphs(self):
        source = random.Random(15)
        counts = {}
        for turn in range(60):
            marks, edges = some_graph(source, 12)
            for kind, many in self.check(graph(marks, edges), len(marks)).items():
                counts[kind] = counts.get(kind, 0) + many
        self.assertGreater(min(counts[-5], counts["short"]), 100)

    def test_long_ones(self):
        for base, n in ((ALL_BUT_ONE, 12), (AT_THE_LIMIT, 7)):
            counts = self.check(base, n)
            self.assertEqual(counts[-5], n)
            self.assertGreater(min(counts[-6], counts["short"], counts["long"]), 0)

    def test_in_the_graph_of_classes_the_same_are_told_apart(self):
        source = random.Random(16)
        for turn in range(100):
            marks, edges = some_graph(source)
            rows = run(graph(marks, edges), alike(), small())
            order = sorted(set(rows[1][2:]))
            for k in range(1, len(order)):
                formula = last(graph(marks, edges), tells(order[k], order[k - 1]))[2:]
                if 0 < len(formula) <= 64:
                    where = last([0, *rows[2][1:]], holds(formula))[2:]
                    self.assertTrue(k in where and k - 1 not in where)


class AgainstTheReference(unittest.TestCase):
    def compare(self, marks, edges):
        n = len(marks)
        calls = [graph(marks, edges)] + [tells(s, t) for s in range(n) for t in range(n)]
        self.assertEqual(run(*calls), expected(*calls), calls)

    def test_all_graphs_of_up_to_three_states(self):
        for marks in ([1], [1, 1], [1, 2], [1, 1, 2], [1, 2, 1], [2, 1, 1], [0, 3, 4]):
            for edges in all_edge_sets(len(marks)):
                self.compare(marks, edges)

    def test_larger_graphs(self):
        source = random.Random(17)
        for turn in range(150):
            self.compare(*some_graph(source, 7))

    def test_few_marks_and_many_rounds(self):
        source = random.Random(18)
        for turn in range(60):
            n = source.randrange(4, 8)
            edges = [source.randrange(n) for k in range(2 * source.randrange(n, 3 * n))]
            self.compare([0] * (n - 1) + [1], edges)

    def test_twelve_states(self):
        source = random.Random(19)
        for turn in range(20):
            marks, edges = [0] * 11 + [1], [source.randrange(12) for k in range(2 * source.randrange(12, 36))]
            pairs = [(source.randrange(12), source.randrange(12)) for k in range(40)]
            calls = [graph(marks, edges)] + [tells(s, t) for s, t in pairs] + [alike(), small(), told()]
            self.assertEqual(run(*calls), expected(*calls), calls)


if __name__ == "__main__":
    unittest.main()
