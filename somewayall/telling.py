"""What tells one state from another: a formula that holds at the one and not at the other."""

from somewayall.alike import rounds_of
from somewayall.formulas import MARKED, NOT, BOTH, SOME_NEXT, MARKS_IN_ALL
from somewayall.graphs import has_mark, ways_on

LONGEST_TOLD = 400


def what_tells(graph, s, t):
    """What tells s from t, which are not alike, or None if it has more than LONGEST_TOLD numbers."""
    onward = ways_on(graph)
    rounds = rounds_of(graph)
    found = {}
    for pair in parted_pairs(rounds[0]):
        found[pair] = told_by_marks(graph.marks[pair[0]], graph.marks[pair[1]])
    # It is made of what tells states that were parted in earlier rounds, each found once: asked for anew
    # wherever it stands, it would take as many steps as it has numbers, and these may be far too many.
    for number in range(1, len(rounds)):
        for pair in parted_pairs(rounds[number]):
            if pair not in found:
                found[pair] = told_by_next(onward, rounds[number - 1], found, pair)
    return found[(s, t)]


def parted_pairs(classes):
    pairs = []
    for s in range(len(classes)):
        pairs.extend([(s, t) for t in range(len(classes)) if classes[s] != classes[t]])
    return pairs


def told_by_marks(here, there):
    """By the least mark that one has and the other has not."""
    mark = min([m for m in range(MARKS_IN_ALL) if has_mark(here, m) != has_mark(there, m)])
    return [MARKED, mark] if has_mark(here, mark) else [NOT, MARKED, mark]


def told_by_next(onward, classes, found, pair):
    """By a state to whose class only one of the pair goes on; found: what tells those that are parted so far."""
    s = pair[0]
    t = pair[1]
    only = those_beyond(onward[s], onward[t], classes)
    if len(only) > 0:
        return behind([SOME_NEXT], [found[(only[0], v)] for v in onward[t]])
    only = those_beyond(onward[t], onward[s], classes)
    return behind([NOT, SOME_NEXT], [found[(only[0], v)] for v in onward[s]])


def those_beyond(states, others, classes):
    """Those of the states in whose class none of the others is, rising as the states do."""
    beside = [classes[v] for v in others]
    return [u for u in states if classes[u] not in beside]


def behind(head, told):
    """The head, then what is told, joined; or None if that is too long, or something told is None for that."""
    row = list(head)
    for k, each in enumerate(told):
        if each is None:
            return None
        if k < len(told) - 1:
            row.append(BOTH)
        row.extend(each)
    return row if len(row) <= LONGEST_TOLD else None
