"""Where formulas hold. A list of True and False, one for each state, says at which states."""

from somewayall.formulas import ALWAYS, MARKED, NOT, BOTH, EITHER, SOME_NEXT, ALL_NEXT, SOME_KEEPS, ALL_KEEP
from somewayall.formulas import SOME_COMES, ALL_COME, SOME_UNTIL, BEHIND
from somewayall.graphs import has_mark, ways_on


def where_each_holds(graph, parts):
    """Where each of the formulas holds that the parts tell one behind another, in their order."""
    found = []
    # From the back: so what stands behind a number is found before it, without a call within a call.
    for number, mark in reversed(parts):
        behind = []
        for k in range(BEHIND[number]):
            behind.append(found.pop())
        found.append(where_one_holds(graph, number, mark, behind))
    found.reverse()
    return found


def where_one_holds(graph, number, mark, behind):
    """Where the formula holds that begins with the number; behind: where those behind it hold."""
    if number == ALWAYS:
        return everywhere(graph.marks)
    if number == MARKED:
        return [has_mark(marks, mark) for marks in graph.marks]
    if number == NOT:
        return negated(behind[0])
    if number == BOTH:
        return [f and h for f, h in zip(behind[0], behind[1])]
    if number == EITHER:
        return [f or h for f, h in zip(behind[0], behind[1])]
    return where_ways_are(ways_on(graph), number, behind)


def where_ways_are(onward, number, behind):
    """The same for the formulas that speak of ways; onward: of each state those to which one goes on."""
    f = behind[0]
    if number == SOME_NEXT:
        return some_next(onward, f)
    if number == ALL_NEXT:
        return all_next(onward, f)
    # f is kept up on some way just if not all ways come to where it doesn't hold; and the other way round.
    if number == SOME_KEEPS:
        return negated(until(all_next, onward, everywhere(f), negated(f)))
    if number == ALL_KEEP:
        return negated(until(some_next, onward, everywhere(f), negated(f)))
    if number == SOME_COMES:
        return until(some_next, onward, everywhere(f), f)
    if number == ALL_COME:
        return until(all_next, onward, everywhere(f), f)
    if number == SOME_UNTIL:
        return until(some_next, onward, f, behind[1])
    return until(all_next, onward, f, behind[1])


def everywhere(states):
    return [True for state in states]


def negated(held):
    return [not here for here in held]


def some_next(onward, held):
    return [any([held[t] for t in targets]) for targets in onward]


def all_next(onward, held):
    return [all([held[t] for t in targets]) for targets in onward]


def until(step, onward, before, goal):
    """From where one comes to the goal, before holding up to there; step: some_next or all_next.

    It begins with the goal and takes in what lies a step before it, until nothing more is taken in:
    so a way that goes round for ever without the goal is never counted.
    """
    reached = goal
    wider = taken_in(step, onward, before, reached)
    while wider != reached:
        reached = wider
        wider = taken_in(step, onward, before, reached)
    return reached


def taken_in(step, onward, before, reached):
    ahead = step(onward, reached)
    return [reached[s] or (before[s] and ahead[s]) for s in range(len(onward))]
