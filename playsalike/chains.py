"""Machines of rows put behind one another, and of rows told backwards."""

from playsalike.growing import grown_sets, no_silent
from playsalike.machines import both_letters, check_machine, end_table, ways_over


def behind(machine, other):
    """The machine that takes each row of machine with each row of other behind it."""
    check_machine(machine)
    check_machine(other)
    letters = both_letters(machine, other)
    shift = len(machine.ways)
    ways = ways_over(machine, letters)
    for row in ways_over(other, letters):
        ways.append([(k, goal + shift) for k, goal in row])
    leaving = end_table(machine)
    ends = {end + shift: True for end in other.ends}
    return grown_sets(letters, [0], lambda state: ways[state],
                      lambda state: [shift] if state in leaving else [],
                      lambda state: state in ends)


def again(machine):
    """The machine that takes rows of machine put behind one another, none of them or more."""
    check_machine(machine)
    ahead = len(machine.ways)
    ways = list(machine.ways) + [()]
    ends = {**end_table(machine), ahead: True}
    return grown_sets(machine.letters, [ahead], lambda state: ways[state],
                      lambda state: [0] if state in ends else [],
                      lambda state: state in ends)


def backwards(machine):
    """The machine that takes the rows of machine told from the last letter to the first."""
    check_machine(machine)
    ways = [[] for row in machine.ways]
    for state, row in enumerate(machine.ways):
        for k, goal in row:
            ways[goal].append((k, state))
    return grown_sets(machine.letters, machine.ends, lambda state: ways[state], no_silent,
                      lambda state: state == 0)
