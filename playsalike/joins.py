"""Machines made of the rows of two, or of all other rows."""

from playsalike.growing import grown, pair_moves
from playsalike.machines import both_letters, check_machine, end_table, least_machine, ways_over


def joined(machine, other):
    """The machine that takes what at least one of both takes."""
    return _of_pairs(machine, other, lambda pair: True, lambda here, there: here or there)


def both(machine, other):
    """The machine that takes what both take."""
    return _of_pairs(machine, other, _has_both, lambda here, there: here and there)


def without(machine, other):
    """The machine that takes what machine takes and other does not."""
    return _of_pairs(machine, other, _has_first, lambda here, there: here and not there)


def _has_both(pair):
    return pair[0] is not None and pair[1] is not None


def _has_first(pair):
    return pair[0] is not None


def _of_pairs(machine, other, is_kept, is_taken):
    """The machine that takes rows for which is_taken, told whether each of both takes them, says so.

    Pairs of states for which is_kept does not hold lead to no such row.
    """
    check_machine(machine)
    check_machine(other)
    letters = both_letters(machine, other)
    moves = pair_moves(ways_over(machine, letters), ways_over(other, letters), is_kept)
    ends = end_table(machine)
    other_ends = end_table(other)

    def is_end(pair):
        return is_taken(pair[0] in ends, pair[1] in other_ends)

    return grown(letters, (0, 0), moves, is_end)


def contrary(machine):
    """The machine that takes all rows of its letters that machine does not take."""
    check_machine(machine)
    outside = len(machine.ways)
    ways = []
    for row in machine.ways:
        goals = dict(row)
        ways.append([(k, goals.get(k, outside)) for k in range(len(machine.letters))])
    ways.append([(k, outside) for k in range(len(machine.letters))])
    ended = end_table(machine)
    ends = [state for state in range(len(ways)) if state not in ended]
    return least_machine(machine.letters, ways, ends)
