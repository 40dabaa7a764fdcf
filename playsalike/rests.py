"""What can stand behind rows: the states that they lead to, and the rests that machines take."""

from playsalike.letters import check_row
from playsalike.machines import check_machine, least_machine, state_behind


def led(machine, row):
    """The state that the row leads to, None if it leads to none."""
    check_machine(machine)
    check_row(row)
    return state_behind(machine, row) if _takes_some(machine) else None


def _takes_some(machine):
    """Whether the machine takes some row: of its least form each state leads to an end."""
    return len(machine.ends) > 0


def next_letters(machine, row):
    """The list, in order, of the letters that stand behind the row in rows that are taken."""
    state = led(machine, row)
    if state is None:
        return []
    return [machine.letters[k] for k, goal in machine.ways[state]]


def rest(machine, row):
    """The machine of the rows that, put behind the row, make one that is taken."""
    state = led(machine, row)
    if state is None:
        return least_machine(machine.letters, [()], [])
    ways, ends = _begun_at(machine, state)
    return least_machine(machine.letters, ways, ends)


def _begun_at(machine, state):
    """The ways and ends of the machine with the numbers of this state and of state 0 exchanged."""
    numbers = list(range(len(machine.ways)))
    numbers[0] = state
    numbers[state] = 0
    ways = [[(k, numbers[goal]) for k, goal in machine.ways[at]] for at in numbers]
    return ways, [numbers[end] for end in machine.ends]


def beginnings(machine):
    """The machine of all rows with which rows that are taken begin, these too."""
    check_machine(machine)
    ends = list(range(len(machine.ways))) if _takes_some(machine) else []
    return least_machine(machine.letters, machine.ways, ends)
