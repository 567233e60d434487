"""Ways that show that a formula holds, and how far it is to where one holds."""

from somewayall.formulas import SOME_NEXT, SOME_KEEPS, SOME_COMES, SOME_UNTIL
from somewayall.graphs import ways_on
from somewayall.holding import everywhere, some_next, where_each_holds

NOT_REACHED = -1


def can_be_shown(parts):
    return parts[0][0] in (SOME_NEXT, SOME_KEEPS, SOME_COMES, SOME_UNTIL)


def way_that_shows(graph, s, parts):
    """A way's beginning from s, where the formula holds and can be shown."""
    onward = ways_on(graph)
    number = parts[0][0]
    if number == SOME_KEEPS:
        return way_kept_up(onward, s, where_each_holds(graph, parts)[0])
    behind = where_each_holds(graph, parts[1:])
    if number == SOME_NEXT:
        return [s, least_next(onward, s, behind[0])]
    if number == SOME_COMES:
        return shortest_way(onward, s, everywhere(onward), behind[0])
    return shortest_way(onward, s, behind[0], behind[1])


def least_next(onward, s, held):
    return min([t for t in onward[s] if held[t]])


def way_kept_up(onward, s, held):
    """From s by the least states where it holds, to the first that was there before."""
    way = [s]
    t = least_next(onward, s, held)
    while t not in way:
        way.append(t)
        t = least_next(onward, t, held)
    return way + [t]


def shortest_way(onward, s, before, goal):
    """The first of the shortest ways from s to the goal over states where before holds."""
    steps = steps_to(onward, before, goal)
    way = [s]
    # Each state on the way is the least that is one step nearer: so no way as short comes before this one.
    for left in range(steps[s] - 1, -1, -1):
        nearer = [steps[t] == left for t in range(len(onward))]
        way.append(least_next(onward, way[-1], nearer))
    return way


def fewest_steps(graph, s, parts):
    """From s to a state where the formula holds, or NOT_REACHED."""
    onward = ways_on(graph)
    return steps_to(onward, everywhere(onward), where_each_holds(graph, parts)[0])[s]


def steps_to(onward, before, goal):
    """Of each state the fewest steps to the goal over states where before holds, or NOT_REACHED."""
    steps = [0 if here else NOT_REACHED for here in goal]
    for taken in range(len(onward)):
        ahead = some_next(onward, [number == taken for number in steps])
        for s in range(len(onward)):
            if steps[s] == NOT_REACHED and before[s] and ahead[s]:
                steps[s] = taken + 1
    return steps
