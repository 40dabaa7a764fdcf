"""What is asked of machines: least rows, all rows, how many there are and how long."""

from playsalike.errors import BadNumber, TooMany
from playsalike.growing import pair_moves
from playsalike.kinds import is_within
from playsalike.letters import in_order
from playsalike.machines import check_machine, end_table, ways_over

MOST_ROWS = 2000


def first_row(machine):
    """The least row that the machine takes, None if there is none."""
    check_machine(machine)
    ends = end_table(machine)
    return least_row(machine.letters, 0, lambda state: machine.ways[state],
                  lambda state: state in ends)


def least_row(letters, start, moves, is_wanted):
    """The least row that leads from start to a wanted key, None if there is none.

    moves tells of a key the pairs (k, key), k ascending.
    """
    seen = {start: True}
    keys = [start]
    reached_by = [None]
    at = 0
    while at < len(keys):
        key = keys[at]
        if is_wanted(key):
            return _row_to(letters, reached_by, at)
        for k, goal in moves(key):
            if goal not in seen:
                seen[goal] = True
                keys.append(goal)
                reached_by.append((at, k))
        at += 1
    return None


def _row_to(letters, reached_by, at):
    row = []
    while reached_by[at] is not None:
        at, k = reached_by[at]
        row.append(letters[k])
    return row[::-1]


def first_apart(machine, other):
    """The least row that just one of both takes, None if there is none."""
    letters, moves = _pair_walk(machine, other, lambda pair: True)
    ends = end_table(machine)
    other_ends = end_table(other)
    return least_row(letters, (0, 0), _unmerged(moves, len(machine.ways)),
                  lambda pair: (pair[0] in ends) != (pair[1] in other_ends))


def _pair_walk(machine, other, is_kept):
    """The letters of both machines and the moves of pairs of their states."""
    check_machine(machine)
    check_machine(other)
    letters = in_order(machine.letters + other.letters)
    ways = ways_over(machine, letters)
    return letters, pair_moves(ways, ways_over(other, letters), is_kept)


def _unmerged(moves, many):
    """The moves without pairs of states that earlier pairs show to be alike if these are.

    A row that parts such a pair parts one of the earlier pairs, which lesser rows lead to:
    so no least row is missed.
    """
    leaders = {}

    def leader(number):
        while number in leaders:
            above = leaders[number]
            leaders[number] = leaders.get(above, above)
            number = above
        return number

    def new_moves(pair):
        found = []
        for k, goal in moves(pair):
            here = leader(-1 if goal[0] is None else goal[0])
            there = leader(-1 if goal[1] is None else many + goal[1])
            if here != there:
                leaders[here] = there
                found.append((k, goal))
        return found

    return new_moves


def first_beyond(machine, other):
    """The least row of machine that other does not take, None if there is none."""
    letters, moves = _pair_walk(machine, other, lambda pair: pair[0] is not None)
    ends = end_table(machine)
    other_ends = end_table(other)
    return least_row(letters, (0, 0), moves,
                  lambda pair: pair[0] in ends and pair[1] not in other_ends)


def is_among(machine, other):
    """Whether other takes all rows of machine."""
    return first_beyond(machine, other) is None


def rows_of(machine, most):
    """The list of all rows of at most so many letters that the machine takes, lesser first."""
    check_machine(machine)
    if not is_within(most, 0, 100):
        raise BadNumber("most")
    _check_few(machine, most)
    leading = [end_table(machine)]
    rows = []
    for length in range(most + 1):
        rows.extend(_rows_of_length(machine, length, leading))
        leading.append(_states_ahead(machine, leading[length]))
    return rows


def _check_few(machine, most):
    found = 0
    for many in _counts(machine, most):
        found += many
        if found > MOST_ROWS:
            raise TooMany(MOST_ROWS)


def _states_ahead(machine, states):
    """The states from which one letter leads to one of these."""
    return {state: True for state, row in enumerate(machine.ways)
            if any([goal in states for k, goal in row])}


def _rows_of_length(machine, length, leading):
    """The rows of just so many letters; leading[n] has the states that n letters part from ends."""
    begun = [([], 0)] if 0 in leading[length] else []
    for left in reversed(range(length)):
        longer = []
        for row, state in begun:
            for k, goal in machine.ways[state]:
                if goal in leading[left]:
                    longer.append((row + [machine.letters[k]], goal))
        begun = longer
    return [row for row, state in begun]


def count_rows(machine, length):
    """How many rows of just so many letters the machine takes."""
    check_machine(machine)
    if not is_within(length, 0, 1000):
        raise BadNumber("length")
    return _counts(machine, length)[length]


def _counts(machine, most):
    """For each length up to most how many rows of it the machine takes."""
    counts = []
    reached = {0: 1}
    for length in range(most + 1):
        counts.append(sum([reached.get(end, 0) for end in machine.ends]))
        further = {}
        for state, many in reached.items():
            for k, goal in machine.ways[state]:
                further[goal] = further.get(goal, 0) + many
        reached = further
    return counts


def lengths(machine):
    """The least and the greatest number of letters of a row, None for the latter without end."""
    check_machine(machine)
    row = first_row(machine)
    if row is None:
        return None
    return (len(row), _longest(machine))


def _longest(machine):
    """The number of letters of the longest row, None if rows get longer without end."""
    coming = [0 for row in machine.ways]
    for row in machine.ways:
        for _, goal in row:
            coming[goal] += 1
    depths = [0 for row in machine.ways]
    waiting = [0] if coming[0] == 0 else []
    passed = 0
    while len(waiting) > 0:
        state = waiting.pop()
        passed += 1
        for _, goal in machine.ways[state]:
            depths[goal] = max(depths[goal], depths[state] + 1)
            coming[goal] -= 1
            if coming[goal] == 0:
                waiting.append(goal)
    return max(depths) if passed == len(machine.ways) else None
