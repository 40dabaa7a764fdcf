"""Machines whose states are grown from what rows lead to."""

from playsalike.errors import TooMany
from playsalike.machines import MOST_STATES, check_many_letters, least_machine

# Beyond 20000 of these TooMany may be raised, whatever the least form is.
MOST_GROWN = 30000


def grown(letters, start, moves, is_end):
    """The machine whose states are keys: start, and those that moves leads to.

    moves tells of a key the list of pairs (k, key), k ascending; is_end whether rows end there.
    """
    check_many_letters(letters)
    numbers = {start: 0}
    keys = [start]
    ways = []
    while len(ways) < len(keys):
        row = []
        key = keys[len(ways)]
        for k, goal in moves(key):
            if goal not in numbers:
                numbers[goal] = len(keys)
                keys.append(goal)
            row.append((k, numbers[goal]))
        ways.append(row)
        if len(keys) > MOST_GROWN:
            raise TooMany(MOST_STATES)
    ends = [number for number, key in enumerate(keys) if is_end(key)]
    return least_machine(letters, ways, ends)


def grown_sets(letters, starts, moves, silent, is_end):
    """The machine whose states are the sets of standings (numbers) that rows may lead to.

    moves tells of a standing the pairs (k, standing), silent the standings that are reached
    from it without a letter, is_end whether rows end there.
    """
    def reached(standings):
        found = {standing: True for standing in standings}
        waiting = list(found)
        while len(waiting) > 0:
            here = waiting.pop()
            for standing in silent(here):
                if standing not in found:
                    found[standing] = True
                    waiting.append(standing)
        return tuple(sorted(found))

    def moves_of_set(standings):
        goals = {}
        for standing in standings:
            for k, goal in moves(standing):
                goals.setdefault(k, []).append(goal)
        return [(k, reached(goals[k])) for k in sorted(goals)]

    def is_end_of_set(standings):
        return any([is_end(standing) for standing in standings])

    return grown(letters, reached(starts), moves_of_set, is_end_of_set)


def no_silent(_standing):
    """Of each standing: none is reached from it without a letter."""
    return []


def pair_moves(ways, other_ways, is_kept):
    """The moves of pairs of states, or None, of two machines that read the same letters.

    Pairs for which is_kept does not hold are left away.
    """
    tables = [dict(row) for row in ways]
    other_tables = [dict(row) for row in other_ways]

    def moves(pair):
        state, other = pair
        goals = tables[state] if state is not None else {}
        others = other_tables[other] if other is not None else {}
        pairs = [(k, (goals.get(k), others.get(k))) for k in sorted({**goals, **others})]
        return [(k, goal) for k, goal in pairs if is_kept(goal)]

    return moves
