"""What each call answers: a list of whole numbers, or of one number alone if it refuses."""

from somewayall.formulas import parts_of
from somewayall.graphs import add_edge, are_marks, cut_edge, graph_of, has_edge, has_state, is_graph
from somewayall.holding import where_each_holds
from somewayall.ways import can_be_shown, way_that_shows

WRONG = -1
UNFIT = -3
NO_STATE = -4
NOT_SO = -5
NO_GRAPH = -9

GRAPH = 0
EDGE = 1
CUT = 2
MARK = 3
HOLDS = 4


class Desk:
    """What the calls of one list work on. graph: None before the first graph."""

    def __init__(self):
        self.graph = None


def answer_call(desk, call, numbers, rows):
    """Answers the call with this number; numbers and rows: what is handed over with it."""
    if call == GRAPH:
        return answer_graph(desk, rows[0], rows[1])
    if desk.graph is None:
        return [NO_GRAPH]
    if call == EDGE:
        return answer_edge(desk.graph, numbers[0], numbers[1])
    if call == CUT:
        return answer_cut(desk.graph, numbers[0], numbers[1])
    if call == MARK:
        return answer_mark(desk.graph, numbers[0], numbers[1])
    if call == HOLDS:
        return answer_holds(desk.graph, rows[0])
    return answer_shows(desk.graph, numbers[0], rows[0])


def answer_graph(desk, marks, ends):
    if not is_graph(marks, ends):
        return [WRONG]
    desk.graph = graph_of(marks, ends)
    return [len(marks)]


def answer_edge(graph, s, t):
    if not has_state(graph, s) or not has_state(graph, t):
        return [NO_STATE]
    if has_edge(graph, s, t):
        return [UNFIT]
    add_edge(graph, s, t)
    return [0]


def answer_cut(graph, s, t):
    if not has_state(graph, s) or not has_state(graph, t):
        return [NO_STATE]
    if not has_edge(graph, s, t):
        return [UNFIT]
    cut_edge(graph, s, t)
    return [0]


def answer_mark(graph, s, marks):
    if not has_state(graph, s):
        return [NO_STATE]
    if not are_marks(marks):
        return [WRONG]
    before = graph.marks[s]
    graph.marks[s] = marks
    return [before]


def answer_holds(graph, formula):
    parts = parts_of(formula)
    if parts is None:
        return [WRONG]
    held = where_each_holds(graph, parts)[0]
    states = [s for s, here in enumerate(held) if here]
    return [len(states)] + with_length(states)


def answer_shows(graph, s, formula):
    if not has_state(graph, s):
        return [NO_STATE]
    parts = parts_of(formula)
    if parts is None:
        return [WRONG]
    if not where_each_holds(graph, parts)[0][s]:
        return [NOT_SO]
    if not can_be_shown(parts):
        return [UNFIT]
    way = way_that_shows(graph, s, parts)
    return [len(way)] + with_length(way)


def with_length(row):
    return [len(row)] + row
