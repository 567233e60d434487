"""What each call answers: a list of whole numbers, or of one number alone if it refuses."""

from somewayall.alike import classes_of, graph_of_classes
from somewayall.formulas import parts_of
from somewayall.graphs import add_edge, are_marks, cut_edge, ends_of, graph_of, has_edge, is_graph
from somewayall.graphs import has_state, has_states
from somewayall.holding import where_each_holds
from somewayall.telling import what_tells
from somewayall.ways import NOT_REACHED, can_be_shown, fewest_steps, way_that_shows

WRONG = -1
UNFIT = -3
NO_STATE = -4
NOT_SO = -5
TOO_LONG = -6
NO_GRAPH = -9

GRAPH = 0
EDGE = 1
CUT = 2
MARK = 3
HOLDS = 4
SHOWS = 5
FAR = 6
ALIKE = 7
SMALL = 8
TELLS = 9


class Desk:
    """What the calls of one list work on. graph: None before the first graph."""

    def __init__(self):
        self.graph = None


def answer_call(desk, call, numbers, rows):
    """Answers the call with this number; numbers and rows: what is handed over with it."""
    if call == GRAPH:
        return answer_graph(desk, rows[0], rows[1])
    if desk.graph is None:
        return [NO_GRAPH]
    if call == EDGE:
        return answer_edge(desk.graph, numbers[0], numbers[1])
    if call == CUT:
        return answer_cut(desk.graph, numbers[0], numbers[1])
    if call == MARK:
        return answer_mark(desk.graph, numbers[0], numbers[1])
    if call == HOLDS:
        return answer_holds(desk.graph, rows[0])
    if call == SHOWS:
        return answer_shows(desk.graph, numbers[0], rows[0])
    if call == FAR:
        return answer_far(desk.graph, numbers[0], rows[0])
    if call == ALIKE:
        return answer_alike(desk.graph)
    if call == SMALL:
        return told_graph(graph_of_classes(desk.graph))
    if call == TELLS:
        return answer_tells(desk.graph, numbers[0], numbers[1])
    return told_graph(desk.graph)


def answer_graph(desk, marks, ends):
    if not is_graph(marks, ends):
        return [WRONG]
    desk.graph = graph_of(marks, ends)
    return [len(marks)]


def answer_edge(graph, s, t):
    if not has_states(graph, s, t):
        return [NO_STATE]
    if has_edge(graph, s, t):
        return [UNFIT]
    add_edge(graph, s, t)
    return [0]


def answer_cut(graph, s, t):
    if not has_states(graph, s, t):
        return [NO_STATE]
    if not has_edge(graph, s, t):
        return [UNFIT]
    cut_edge(graph, s, t)
    return [0]


def answer_mark(graph, s, marks):
    if not has_state(graph, s):
        return [NO_STATE]
    if not are_marks(marks):
        return [WRONG]
    before = graph.marks[s]
    graph.marks[s] = marks
    return [before]


def answer_holds(graph, formula):
    parts = parts_of(formula)
    if parts is None:
        return [WRONG]
    held = where_each_holds(graph, parts)[0]
    return counted([s for s, here in enumerate(held) if here])


def answer_shows(graph, s, formula):
    if not has_state(graph, s):
        return [NO_STATE]
    parts = parts_of(formula)
    if parts is None:
        return [WRONG]
    if not where_each_holds(graph, parts)[0][s]:
        return [NOT_SO]
    if not can_be_shown(parts):
        return [UNFIT]
    return counted(way_that_shows(graph, s, parts))


def answer_far(graph, s, formula):
    if not has_state(graph, s):
        return [NO_STATE]
    parts = parts_of(formula)
    if parts is None:
        return [WRONG]
    steps = fewest_steps(graph, s, parts)
    return [NOT_SO] if steps == NOT_REACHED else [steps]


def answer_alike(graph):
    classes = classes_of(graph)
    return [len(set(classes))] + with_length(classes)


def answer_tells(graph, s, t):
    if not has_states(graph, s, t):
        return [NO_STATE]
    classes = classes_of(graph)
    if classes[s] == classes[t]:
        return [NOT_SO]
    told = what_tells(graph, s, t)
    return [TOO_LONG] if told is None else counted(told)


def told_graph(graph):
    """How many states; then their marks, and the ends of the edges."""
    return [len(graph.marks)] + with_length(graph.marks) + with_length(ends_of(graph))


def counted(row):
    """How many there are, as a number that is answered; then the row, as a list that is answered."""
    return [len(row)] + with_length(row)


def with_length(row):
    return [len(row)] + row
