"""How calls and answers are laid, and what answers leaves alone."""

import inspect
import random
import sys
import unittest

from helper import (TOP, alike, classed, cut, edge, expected, far, flat, graph, holds, laid, laid_graph, listed, mark,
                    row_of, run, shows, small, some_graph, some_tree, split, tells, told)
from somewayall.desk import answers


class Untouched(list):
    """A list that fails as soon as something changes it, be it for a while."""

    def fail(self, *args, **words):
        raise AssertionError("what was handed in is changed")

    append = extend = insert = pop = remove = clear = sort = reverse = fail
    __setitem__ = __delitem__ = __iadd__ = __imul__ = fail


ALL_ELEVEN = laid([holds([0]), graph([1, 2], [0, 1]), edge(1, 0), cut(0, 1), mark(0, 3), holds([1, 1]),
                   shows(1, [9, 1, 0]), shows(0, [2, 0]), holds([1, 2]), graph([]), far(1, [1, 0]), far(0, [1, 2]),
                   alike(), small(), tells(1, 0), tells(1, 1), told()])


class Layout(unittest.TestCase):
    def test_the_empty_list(self):
        self.assertEqual(answers([]), [])

    def test_number_by_number(self):
        self.assertEqual(answers([0, 3, 1, 2, 4, 4, 0, 1, 1, 2]), [1, 3])
        self.assertEqual(answers([0, 1, 5, 0, 3, 0, 9, 3, 0, 0]), [1, 1, 1, 5, 1, 9])
        self.assertEqual(answers([0, 2, 1, 1, 2, 0, 1, 4, 2, 1, 0]), [1, 2, 4, 2, 2, 0, 1])
        self.assertEqual(answers([0, 2, 1, 1, 2, 0, 1, 4, 2, 1, 7]), [1, 2, 2, 0, 0])
        self.assertEqual(answers([0, 2, 1, 1, 2, 0, 1, 5, 0, 2, 5, 0]), [1, 2, 4, 2, 2, 0, 1])
        self.assertEqual(answers([0, 2, 1, 1, 0, 1, 0, 1, 2, 0, 1, 2, 0, 1]), [1, 2, 1, 0, 1, 0, 1, -3])

        self.assertEqual(answers([0, 2, 1, 1, 2, 0, 1, 6, 1, 2, 1, 0]), [1, 2, 1, 0])
        self.assertEqual(answers([0, 2, 1, 1, 2, 0, 1, 7]), [1, 2, 4, 1, 2, 0, 0])
        self.assertEqual(answers([0, 2, 1, 1, 2, 0, 1, 8]), [1, 2, 6, 1, 1, 1, 2, 0, 0])
        self.assertEqual(answers([0, 2, 1, 2, 2, 0, 1, 9, 1, 0]), [1, 2, 5, 3, 3, 2, 1, 0])
        self.assertEqual(answers([0, 2, 1, 1, 0, 10]), [1, 2, 5, 2, 2, 1, 1, 0])

    def test_all_eleven_behind_one_another(self):
        self.assertEqual(answers(ALL_ELEVEN), [1, -9] + [1, 2] + [1, 0] + [1, 0] + [1, 1] + [4, 2, 2, 0, 1]
                         + [4, 2, 2, 1, 0] + [1, -5] + [2, 0, 0] + [1, -1] + [1, 1] + [1, -5]
                         + [4, 2, 2, 0, 1] + [9, 2, 2, 3, 2, 4, 0, 0, 1, 0] + [5, 3, 3, 2, 1, 0] + [1, -5]
                         + [7, 2, 2, 3, 2, 2, 1, 0])

    def test_empty_rows(self):
        self.assertEqual(answers([0, 0, 0, 4, 0, 0, 1, 0, 0, 4, 0, 5, 0, 0]), [1, -1, 1, -9, 1, 1, 1, -1, 1, -1])

    def test_only_whole_numbers_in_a_plain_list(self):
        given = answers(ALL_ELEVEN)
        self.assertIs(type(given), list)
        self.assertEqual({type(number) for number in given}, {int})

    def test_refused_calls_are_read_to_their_end(self):
        self.assertEqual(answers(laid([shows(0, [0] * 100), holds([4] * 100), far(0, [7] * 100), tells(7, 8),
                                       graph([0] * 30, [0] * 400), graph([0]), shows(TOP, [5] * 100), holds([0]),
                                       far(TOP, [8] * 100), tells(7, 8), far(0, [9] * 100), holds([0])])),
                         [1, -9, 1, -9, 1, -9, 1, -9, 1, -1, 1, 1, 1, -4, 3, 1, 1, 0, 1, -4, 1, -4, 1, -1, 3, 1, 1, 0])

    def test_largest_numbers(self):
        big = laid([graph([TOP] * 30, [TOP] * 400), graph([1]), edge(TOP, TOP), cut(TOP, TOP), mark(TOP, TOP),
                    mark(0, TOP), holds([TOP] * 100), shows(TOP, [TOP] * 100), shows(0, [TOP]),
                    far(TOP, [TOP] * 100), far(0, [TOP]), tells(TOP, TOP)])
        self.assertEqual(split(answers(big)), [[-1], [1], [-4], [-4], [-4], [-1], [-1], [-4], [-1], [-4], [-1], [-4]])

    def test_sixty_calls(self):
        calls = [graph([1, 2], [0, 1])] + [mark(0, k) for k in range(58)] + [holds([1, 0])]
        self.assertEqual(len(calls), 60)
        self.assertEqual(split(answers(laid(calls))), [[2], [1]] + [[k] for k in range(57)] + [[1, 1, 0]])

    def test_a_long_list(self):
        calls = [graph([s for s in range(12)], [k * 7 % 12 for k in range(200)]) for turn in range(60)]
        self.assertEqual(answers(laid(calls)), [1, 12] * 60)

    def test_sixty_of_each_kind(self):
        base = graph([1] + [0] * 11, row_of(12) + [11, 0])
        for call in (base, edge(0, 0), cut(5, 6), mark(3, 255), holds([8, 9, 1, 0]), shows(1, [9, 1, 0]),
                     far(1, [1, 0]), alike(), small(), tells(11, 10), told()):
            self.assertEqual(split(answers(laid([base] + [call] * 59))), expected(base, *[call] * 59))

    def test_any_calls_in_a_row(self):
        source = random.Random(5)
        for turn in range(500):
            calls = [some_call(source) for k in range(source.randrange(1, 60))]
            if not turn_up(source):
                calls.insert(0, graph(*some_graph(source)))
            self.assertEqual(split(answers(laid(calls))), expected(*calls), calls)


def some_call(source):
    """A call that is now right, now wrong, on a graph of some four states."""
    number = source.choice((0, 1, 1, 1, 2, 2, 2, 3, 3, 4, 5, 6, 7, 8, 9, 9, 10))
    if number in (7, 8, 10):
        return [number]
    if number == 0 and source.randrange(2) == 0:
        return graph(*some_graph(source))
    if number == 0:
        n = source.choice((0, 1, 3, 4, 4, 5, 5, 13))
        size = source.choice((0, 2, 6, 8, 10, 10, 3))
        return graph([source.choice((0, 1, 2, 3, 255, 256 if turn_up(source) else 1)) for s in range(n)],
                     [source.randrange(n + 1 if turn_up(source) else max(n, 1)) for k in range(size)])
    if number in (1, 2, 9):
        return [number, source.randrange(6), source.randrange(6)]
    if number == 3:
        return mark(source.randrange(6), source.choice((0, 1, 2, 3, 255, 256)))
    formula = flat(some_tree(source, source.randrange(3)))
    if turn_up(source):
        formula = formula[1:] if turn_up(source) else formula + [0]
    if number == 4:
        return holds(formula)
    if number == 6:
        return far(source.randrange(6), formula)
    head = source.choice((5, 7, 9, 11, 2, 8))
    return shows(source.randrange(6), [head, *formula] if head != 11 else [11, 1, 0, *formula])


def turn_up(source):
    return source.randrange(10) == 0


class BothStages(unittest.TestCase):
    """Each call answers for the graph as it is then."""

    def check(self, *pairs):
        self.assertEqual(run(*[call for call, answer in pairs]), [answer for call, answer in pairs])

    def test_edge_and_cut_between_the_others(self):
        self.check(
            (graph([0, 0, 1], [0, 2]), [3]),
            (alike(), classed([0, 1, 2])),
            (tells(0, 1), listed([5, 1, 0])),
            (far(1, [1, 0]), [-5]),
            (edge(1, 2), [0]),
            (alike(), classed([0, 0, 2])),
            (tells(0, 1), [-5]),
            (far(1, [1, 0]), [1]),
            (small(), laid_graph([0, 1], [0, 1, 1, 1])),
            (told(), laid_graph([0, 0, 1], [0, 2, 1, 2])),
            (holds([5, 1, 0]), listed([0, 1, 2])),
            (shows(1, [9, 1, 0]), listed([1, 2])),
            (edge(2, 0), [0]),
            (small(), laid_graph([0, 1], [0, 1, 1, 0])),
            (shows(2, [7, 9, 1, 0]), listed([2, 0, 2])),
            (cut(0, 2), [0]),
            (cut(0, 2), [-3]),
            (tells(0, 1), listed([5, 2, 1, 0])),
            (alike(), classed([0, 1, 2])),
            (far(2, [2, 9, 1, 0]), [1]),
            (told(), laid_graph([0, 0, 1], [1, 2, 2, 0])),
            (small(), laid_graph([0, 0, 1], [0, 0, 1, 2, 2, 0])))

    def test_mark_between_the_others(self):
        self.check(
            (graph([4, 4], [0, 1, 1, 0]), [2]),
            (alike(), classed([0, 0])),
            (small(), laid_graph([4], [0, 0])),
            (tells(1, 0), [-5]),
            (mark(1, 12), [4]),
            (alike(), classed([0, 1])),
            (small(), laid_graph([4, 12], [0, 1, 1, 0])),
            (tells(1, 0), listed([1, 3])),
            (tells(0, 1), listed([2, 1, 3])),
            (holds([1, 3]), listed([1])),
            (far(0, [1, 3]), [1]),
            (shows(0, [5, 1, 3]), listed([0, 1])),
            (mark(1, 256), [-1]),
            (told(), laid_graph([4, 12], [0, 1, 1, 0])),
            (mark(0, 12), [4]),
            (alike(), classed([0, 0])),
            (tells(1, 0), [-5]),
            (told(), laid_graph([12, 12], [0, 1, 1, 0])))

    def test_a_graph_between_the_others(self):
        self.check(
            (alike(), [-9]),
            (graph([1, 2, 1], [0, 1, 2, 1]), [3]),
            (alike(), classed([0, 1, 0])),
            (graph([1], [1, 0]), [-1]),
            (small(), laid_graph([1, 2], [0, 1, 1, 1])),
            (graph([5]), [1]),
            (tells(0, 1), [-4]),
            (alike(), classed([0])),
            (small(), laid_graph([5], [0, 0])),
            (told(), laid_graph([5])),
            (far(0, [1, 1]), [-5]),
            (far(1, [1, 0]), [-4]))


class LeftAlone(unittest.TestCase):
    def test_what_is_handed_in_stays_as_it_was(self):
        handed = Untouched(ALL_ELEVEN)
        answers(handed)
        self.assertEqual(list(handed), ALL_ELEVEN)

    def test_changing_the_answer_changes_nothing_handed_in(self):
        handed = list(ALL_ELEVEN)
        answers(handed).clear()
        self.assertEqual(handed, ALL_ELEVEN)

    def test_a_second_time_is_like_the_first(self):
        first = answers(list(ALL_ELEVEN))
        self.assertEqual(answers(list(ALL_ELEVEN)), first)
        self.assertEqual(answers([4, 1, 0]), [1, -9])
        answers(graph([1, 2, 3], [0, 1]))
        self.assertEqual(answers([4, 1, 0]), [1, -9])
        self.assertEqual(answers(list(ALL_ELEVEN)), first)

    def test_the_answer_given_back_is_kept_nowhere(self):
        answers(list(ALL_ELEVEN)).append(7)
        self.assertEqual(answers([]), [])
        answers([]).append(7)
        self.assertEqual(answers([]), [])

    def test_few_calls_within_one_another(self):
        deep = laid([graph([1, 2], [0, 1, 1, 0])] + [holds([5] * 63 + [0]), holds([3] * 31 + [0] * 32)] * 20
                    + [far(0, [6] * 63 + [0])] * 10)
        rounds = laid([graph([0] * 11 + [1], row_of(12))] + [tells(1, 0), alike(), small()] * 19)
        limit = sys.getrecursionlimit()
        sys.setrecursionlimit(len(inspect.stack()) + 30)
        try:
            given = answers(deep)
            answers(rounds)
        finally:
            sys.setrecursionlimit(limit)
        self.assertEqual(given, [1, 2] + [4, 2, 2, 0, 1] * 40 + [1, 0] * 10)


if __name__ == "__main__":
    unittest.main()
