"""The calls graph, edge, cut and mark: what they answer, what they refuse, what they leave as it was."""

import unittest

from helper import (TOP, alike, cut, edge, far, graph, holds, last, listed, look, mark, run, shows, small, state_after,
                    tells, told)

MARKS = [1, 2, 4, 8]
EDGES = [0, 1, 1, 2, 2, 2, 0, 3]
BASE = graph(MARKS, EDGES)


class GraphCall(unittest.TestCase):
    def test_answers_how_many_states(self):
        for n in range(1, 13):
            self.assertEqual(run(graph([0] * n)), [[n]])

    def test_no_states_and_too_many_are_refused(self):
        for n in (0, 13, 14, 30):
            self.assertEqual(run(graph([0] * n)), [[-1]])

    def test_marks_up_to_255(self):
        self.assertEqual(run(graph([255, 0]), mark(0, 0), mark(1, 0)), [[2], [255], [0]])
        for wrong in (256, 257, 511, TOP):
            self.assertEqual(last(graph([wrong])), [-1])
            self.assertEqual(last(graph([0, wrong])), [-1])

    def test_edges_lead_between_states_that_there_are(self):
        self.assertEqual(last(graph([0, 0], [1, 0])), [2])
        self.assertEqual(last(graph([0] * 12, [11, 11])), [12])
        for wrong in ([0, 2], [2, 0], [2, 2], [0, 1, 1, 2], [0, TOP], [TOP, 0]):
            self.assertEqual(last(graph([0, 0], wrong)), [-1])

    def test_a_number_left_over(self):
        for wrong in ([0], [0, 1, 1], [0, 0, 0]):
            self.assertEqual(last(graph([0, 0], wrong)), [-1])

    def test_the_edges_are_there_and_no_others(self):
        self.assertEqual(run(BASE, *look(4))[1:5], [[1], [2], [4], [8]])
        found = run(BASE, *look(4))[5:]
        there = {(0, 1), (1, 2), (2, 2), (0, 3)}
        self.assertEqual(found, [[0] if (s, t) in there else [-3] for s in range(4) for t in range(4)])

    def test_an_edge_told_twice_is_one(self):
        twice = graph([0, 0], [0, 1, 0, 1, 1, 1, 0, 1])
        self.assertEqual(run(twice, cut(0, 1), cut(0, 1), edge(0, 1), cut(1, 1)), [[2], [0], [-3], [0], [0]])

    def test_many_edges_told(self):
        self.assertEqual(run(graph([1, 0], [0, 1] * 200), cut(0, 1), cut(0, 1)), [[2], [0], [-3]])

    def test_a_second_graph_takes_the_place_of_the_first(self):
        self.assertEqual(state_after(2, BASE, graph([5, 6], [1, 0])), state_after(2, graph([5, 6], [1, 0])))
        self.assertEqual(run(BASE, graph([7]), edge(0, 1), holds([0])), [[4], [1], [-4], listed([0])])

    def test_a_refused_graph_leaves_the_one_there_was(self):
        for wrong in (graph([]), graph([0] * 13), graph([256]), graph([0], [0, 1]), graph([0], [0])):
            self.assertEqual(run(BASE, wrong)[1], [-1])
            self.assertEqual(state_after(4, BASE, wrong), state_after(4, BASE))

    def test_a_refused_graph_ahead_of_any_leaves_none(self):
        self.assertEqual(run(graph([256]), holds([0]), graph([3]), holds([0])), [[-1], [-9], [1], listed([0])])


class WithoutGraph(unittest.TestCase):
    def test_all_but_graph_is_refused(self):
        for call in (edge(0, 0), cut(0, 0), mark(0, 0), holds([0]), shows(0, [9, 0]), far(0, [0]), alike(), small(),
                     tells(0, 1), told()):
            self.assertEqual(run(call), [[-9]])
            self.assertEqual(run(graph([256]), call, graph([1])), [[-1], [-9], [1]])

    def test_it_comes_ahead_of_all_else(self):
        for call in (edge(TOP, 0), cut(0, TOP), mark(TOP, TOP), holds([]), holds([13]), holds([2] * 100),
                     shows(TOP, []), shows(0, [0]), far(TOP, [0]), far(0, []), far(0, [2, 0]), tells(TOP, 0),
                     tells(0, 0)):
            self.assertEqual(run(call, graph([0])), [[-9], [1]])


class EdgeCall(unittest.TestCase):
    def test_an_edge_is_added(self):
        self.assertEqual(run(BASE, edge(3, 0), cut(3, 0)), [[4], [0], [0]])
        self.assertEqual(state_after(4, BASE, edge(3, 0)), state_after(4, graph(MARKS, EDGES + [3, 0])))

    def test_an_edge_to_itself(self):
        self.assertEqual(run(graph([0]), edge(0, 0), edge(0, 0), cut(0, 0), cut(0, 0)), [[1], [0], [-3], [0], [-3]])

    def test_staying_is_no_edge(self):
        self.assertEqual(run(graph([1, 2]), holds([5, 1, 0]), cut(0, 0), edge(0, 0)), [[2], listed([0]), [-3], [0]])

    def test_one_no_longer_stays_once_there_is_an_edge(self):
        self.assertEqual(run(graph([1, 2]), edge(0, 1), holds([5, 1, 0]), holds([5, 1, 1])),
                         [[2], [0], listed([]), listed([0, 1])])

    def test_refusals(self):
        self.assertEqual(last(BASE, edge(0, 1)), [-3])
        for s, t in ((4, 0), (0, 4), (4, 4), (TOP, 0), (0, TOP), (TOP, TOP)):
            self.assertEqual(last(BASE, edge(s, t)), [-4])
            self.assertEqual(state_after(4, BASE, edge(s, t)), state_after(4, BASE))
        self.assertEqual(state_after(4, BASE, edge(0, 1)), state_after(4, BASE))

    def test_the_order_in_which_edges_came_does_not_matter(self):
        late = [graph([0, 1, 1], []), edge(0, 2), edge(0, 1)]
        self.assertEqual(last(*late, shows(0, [5, 1, 0])), listed([0, 1]))


class CutCall(unittest.TestCase):
    def test_an_edge_is_gone(self):
        self.assertEqual(run(BASE, cut(0, 1), cut(0, 1)), [[4], [0], [-3]])
        self.assertEqual(state_after(4, BASE, cut(0, 1)), state_after(4, graph(MARKS, [1, 2, 2, 2, 0, 3])))

    def test_only_that_way_round(self):
        both = graph([0, 0], [0, 1, 1, 0])
        self.assertEqual(run(both, cut(0, 1), cut(1, 0)), [[2], [0], [0]])

    def test_one_stays_where_the_last_edge_is_cut(self):
        two = graph([1, 2], [0, 1])
        self.assertEqual(run(two, holds([5, 1, 0]), cut(0, 1), holds([5, 1, 0]), holds([7, 1, 0]), shows(0, [7, 1, 0])),
                         [[2], listed([]), [0], listed([0]), listed([0]), listed([0, 0])])

    def test_refusals(self):
        self.assertEqual(last(BASE, cut(1, 0)), [-3])
        self.assertEqual(last(BASE, cut(3, 3)), [-3])
        for s, t in ((4, 0), (0, 4), (4, 4), (TOP, 0), (0, TOP), (TOP, TOP)):
            self.assertEqual(last(BASE, cut(s, t)), [-4])
            self.assertEqual(state_after(4, BASE, cut(s, t)), state_after(4, BASE))
        self.assertEqual(state_after(4, BASE, cut(1, 0)), state_after(4, BASE))


class MarkCall(unittest.TestCase):
    def test_answers_the_marks_before(self):
        self.assertEqual(run(BASE, mark(2, 255), mark(2, 0), mark(2, 3), mark(2, 3)), [[4], [4], [255], [0], [3]])

    def test_only_that_state_is_marked_anew(self):
        self.assertEqual(state_after(4, BASE, mark(1, 255)), state_after(4, graph([1, 255, 4, 8], EDGES)))
        self.assertEqual(run(BASE, mark(1, 1), holds([1, 0]), holds([1, 1])), [[4], [2], listed([0, 1]), listed([])])

    def test_refusals(self):
        for s in (4, 12, TOP):
            self.assertEqual(last(BASE, mark(s, 0)), [-4])
        for m in (256, TOP):
            self.assertEqual(last(BASE, mark(0, m)), [-1])
            self.assertEqual(state_after(4, BASE, mark(0, m)), state_after(4, BASE))

    def test_no_such_state_comes_ahead_of_wrong_marks(self):
        self.assertEqual(last(BASE, mark(4, 256)), [-4])
        self.assertEqual(last(BASE, mark(TOP, TOP)), [-4])


if __name__ == "__main__":
    unittest.main()
