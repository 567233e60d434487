"""Graphs: states numbered from 0, the marks of each, and the edges between them."""

MOST_STATES = 12
MARKS_END = 256


class Graph:
    """marks: of each state its marks; targets: of each state those to which its edges lead, rising."""

    def __init__(self, marks, targets):
        self.marks = marks
        self.targets = targets


def is_graph(marks, ends):
    """Whether there is a graph with these marks and these ends of edges (from, to, from, to ..)."""
    count = len(marks)
    if count < 1 or count > MOST_STATES or len(ends) % 2 == 1:
        return False
    return all([are_marks(number) for number in marks]) and all([s < count for s in ends])


def are_marks(number):
    return number < MARKS_END


def has_mark(marks, mark):
    return (marks >> mark) & 1 == 1


def graph_of(marks, ends):
    """The graph of what is_graph has found to be one."""
    graph = Graph(list(marks), [[] for number in marks])
    for k in range(0, len(ends), 2):
        if not has_edge(graph, ends[k], ends[k + 1]):
            add_edge(graph, ends[k], ends[k + 1])
    return graph


def has_state(graph, s):
    return s < len(graph.marks)


def has_states(graph, s, t):
    return has_state(graph, s) and has_state(graph, t)


def has_edge(graph, s, t):
    return t in graph.targets[s]


def add_edge(graph, s, t):
    graph.targets[s] = sorted(graph.targets[s] + [t])


def cut_edge(graph, s, t):
    graph.targets[s] = [u for u in graph.targets[s] if u != t]


def ends_of(graph):
    """The ends of the edges (from, to, from, to ..), by from, then to, rising."""
    ends = []
    for s, targets in enumerate(graph.targets):
        for t in targets:
            ends.extend([s, t])
    return ends


def ways_on(graph):
    """Of each state those to which one goes on, rising; where there is no edge one stays."""
    return [targets if len(targets) > 0 else [s] for s, targets in enumerate(graph.targets)]
