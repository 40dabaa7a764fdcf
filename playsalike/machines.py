"""Machines over rows of letters, each in its one least form."""

from playsalike.errors import BadMachine, TooMany
from playsalike.kinds import is_ascending, is_list, is_pair, is_within
from playsalike.leastforms import least_form
from playsalike.letters import check_letters, check_row, in_order, is_letters, number_of_letters

MOST_LETTERS = 200
MOST_STATES = 2000


class Machine:
    """A machine that takes rows of letters: its letters, and the ways and ends of its states."""

    def __init__(self, letters, ways, ends):
        if not _is_own_letters(letters):
            raise BadMachine("letters")
        if not _is_ways(len(letters), ways):
            raise BadMachine("ways")
        if not _is_states(len(ways), ends):
            raise BadMachine("ends")
        self.letters = tuple(letters)
        self.ways, self.ends = least_form(ways, ends)

    def __eq__(self, other):
        return (isinstance(other, Machine) and self.letters == other.letters
                and self.ways == other.ways and self.ends == other.ends)


def _is_own_letters(letters):
    if not is_list(letters) or len(letters) > MOST_LETTERS or not is_letters(letters):
        return False
    return list(letters) == in_order(letters)


def _is_ways(many, ways):
    if not is_list(ways) or not 1 <= len(ways) <= MOST_STATES:
        return False
    return all([_is_way(many, len(ways), row) for row in ways])


def _is_way(many, states, row):
    if not is_list(row) or len(row) > many or not all([is_pair(pair) for pair in row]):
        return False
    for k, goal in row:
        if not is_within(k, 0, many - 1) or not is_within(goal, 0, states - 1):
            return False
    return is_ascending([k for k, goal in row])


def _is_states(states, ends):
    if not is_list(ends) or len(ends) > states:
        return False
    return all([is_within(end, 0, states - 1) for end in ends]) and is_ascending(ends)


def check_machine(machine):
    """Raises BadMachine(None) unless machine is a Machine."""
    if not isinstance(machine, Machine):
        raise BadMachine(None)


def check_many_letters(letters):
    """Raises TooMany if these are too many letters for a machine."""
    if len(letters) > MOST_LETTERS:
        raise TooMany(MOST_LETTERS)


def least_machine(letters, ways, ends):
    """The machine with these letters, in order, from however many states."""
    check_many_letters(letters)
    least_ways, least_ends = least_form(ways, ends)
    if len(least_ways) > MOST_STATES:
        raise TooMany(MOST_STATES)
    machine = Machine((), ((),), ())
    machine.letters = tuple(letters)
    machine.ways = least_ways
    machine.ends = least_ends
    return machine


def takes(machine, row):
    """Whether the machine takes the row."""
    check_machine(machine)
    check_row(row)
    return state_behind(machine, row) in machine.ends


def state_behind(machine, row):
    """The state that the row leads to, None if it leads to none."""
    numbers = number_of_letters(machine.letters)
    state = 0
    for letter in row:
        if letter not in numbers:
            return None
        state = goal_of(machine.ways[state], numbers[letter])
        if state is None:
            return None
    return state


def goal_of(way, k):
    """The goal to which the letter with this number leads by the pairs of a state, or None."""
    for number, goal in way:
        if number == k:
            return goal
    return None


def widened(machine, letters):
    """The machine with these letters, too, that takes the same rows."""
    check_machine(machine)
    check_letters(letters)
    wide = in_order(list(machine.letters) + list(letters))
    return least_machine(wide, ways_over(machine, wide), machine.ends)


def both_letters(machine, other):
    """The letters of both machines, in order; TooMany if these are too many."""
    letters = in_order(machine.letters + other.letters)
    check_many_letters(letters)
    return letters


def ways_over(machine, letters):
    """The ways of the machine with the places of its letters among these, which have all."""
    numbers = number_of_letters(letters)
    places = [numbers[letter] for letter in machine.letters]
    return [[(places[k], goal) for k, goal in row] for row in machine.ways]


def end_table(machine):
    """A dict that has the ends of the machine as its keys."""
    return {end: True for end in machine.ends}
