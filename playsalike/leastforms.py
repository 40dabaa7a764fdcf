"""The least form of the states of a machine."""

from playsalike.partitions import alike


def least_form(ways, ends):
    """The pair of ways and ends of the least machine that takes the same rows (tuples).

    ways is a list of lists of pairs (k, goal), k ascending; ends is a list of states.
    """
    kept = _useful(ways, ends)
    if 0 not in kept:
        return ((),), ()
    numbers = {state: at for at, state in enumerate(kept)}
    ways = [[(k, numbers[goal]) for k, goal in ways[state] if goal in numbers] for state in kept]
    ended = {end: True for end in ends}
    is_end = [state in ended for state in kept]
    return _numbered(ways, is_end, alike(ways, is_end))


def _useful(ways, ends):
    """The ascending list of the states that are led to and that lead to an end."""
    reached = _reached([0], [[goal for k, goal in row] for row in ways])
    sources = [[] for row in ways]
    for state, row in enumerate(ways):
        for _, goal in row:
            sources[goal].append(state)
    leading = _reached(ends, sources)
    return [state for state in sorted(reached) if state in leading]


def _reached(starts, goals):
    found = {start: True for start in starts}
    waiting = list(starts)
    while len(waiting) > 0:
        state = waiting.pop()
        for goal in goals[state]:
            if goal not in found:
                found[goal] = True
                waiting.append(goal)
    return found


def _numbered(ways, is_end, lots):
    """The ways and ends of the lots, numbered as they are first met."""
    numbers = {lots[0]: 0}
    told = [0]
    least_ways = []
    while len(least_ways) < len(told):
        row = []
        state = told[len(least_ways)]
        for k, goal in ways[state]:
            if lots[goal] not in numbers:
                numbers[lots[goal]] = len(told)
                told.append(goal)
            row.append((k, numbers[lots[goal]]))
        least_ways.append(tuple(row))
    ends = [number for number, here in enumerate(told) if is_end[here]]
    return tuple(least_ways), tuple(ends)
