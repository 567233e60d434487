"""Which states are alike, and the graph of their classes. A class is told by the least state in it."""

from somewayall.graphs import Graph, ways_on


def rounds_of(graph):
    """From round 0 to the last that parts any: of each state its class in that round."""
    onward = ways_on(graph)
    rounds = []
    further = classes_by(graph.marks)
    while len(rounds) == 0 or further != rounds[-1]:
        rounds.append(further)
        further = parted_further(onward, further)
    return rounds


def parted_further(onward, classes):
    return classes_by([[classes[s]] + classes_among(targets, classes) for s, targets in enumerate(onward)])


def classes_by(signs):
    """The classes of states that have the same sign; signs: of each state its sign."""
    return [signs.index(sign) for sign in signs]


def classes_among(states, classes):
    """The classes in which these states are, each once, rising."""
    return sorted(set([classes[s] for s in states]))


def classes_of(graph):
    """Of each state its class of alike ones."""
    return rounds_of(graph)[-1]


def graph_of_classes(graph):
    onward = ways_on(graph)
    classes = classes_of(graph)
    leasts = sorted(set(classes))
    targets = []
    # Alike states go on to the same classes: so the least of them speaks for its class.
    for s in leasts:
        targets.append([leasts.index(least) for least in classes_among(onward[s], classes)])
    return Graph([graph.marks[s] for s in leasts], targets)
