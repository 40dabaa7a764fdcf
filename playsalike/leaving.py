"""Machines with letters left out, let in, exchanged, or with rows in their places."""

from playsalike.errors import BadLetter, BadLetters, BadNames
from playsalike.growing import grown, grown_sets, no_silent
from playsalike.letters import check_letters, in_order, is_letter, number_of_letters
from playsalike.machines import check_machine, end_table, least_machine, ways_over


def left_out(machine, letters):
    """The machine without these letters that takes the rows with these letters left out."""
    check_machine(machine)
    check_letters(letters)
    gone = number_of_letters(letters)
    kept = [letter for letter in machine.letters if letter not in gone]
    ways, silent = _parted_ways(machine, kept)
    return grown_sets(kept, [0], lambda state: ways[state],
                      lambda state: silent[state], _is_end_of(machine))


def _parted_ways(machine, kept):
    """The ways of the letters that are kept, and the goals of all others."""
    numbers = number_of_letters(kept)
    ways = []
    silent = []
    for row in machine.ways:
        told = [(machine.letters[k], goal) for k, goal in row]
        ways.append([(numbers[letter], goal) for letter, goal in told if letter in numbers])
        silent.append([goal for letter, goal in told if letter not in numbers])
    return ways, silent


def _is_end_of(machine):
    ends = end_table(machine)
    return lambda state: state in ends


def let_in(machine, letters):
    """The machine with these letters, too, that takes what machine takes without them."""
    check_machine(machine)
    check_letters(letters)
    if any([letter in machine.letters for letter in letters]):
        raise BadLetters("a letter of the machine cannot be let in")
    wide = in_order(list(machine.letters) + list(letters))
    numbers = number_of_letters(wide)
    added = [numbers[letter] for letter in in_order(letters)]
    ways = []
    for state, row in enumerate(ways_over(machine, wide)):
        ways.append(sorted(row + [(k, state) for k in added]))
    return least_machine(wide, ways, machine.ends)


def kept_by(machine, other):
    """The machine that takes the rows that other takes, too, without letters it has not."""
    check_machine(machine)
    check_machine(other)
    numbers = number_of_letters(other.letters)
    others = [numbers.get(letter) for letter in machine.letters]
    tables = [dict(row) for row in other.ways]

    def moves(pair):
        state, standing = pair
        found = []
        for k, goal in machine.ways[state]:
            there = standing if others[k] is None else tables[standing].get(others[k])
            if there is not None:
                found.append((k, (goal, there)))
        return found

    ends = end_table(machine)
    other_ends = end_table(other)
    return grown(machine.letters, (0, 0), moves,
                 lambda pair: pair[0] in ends and pair[1] in other_ends)


def relettered(machine, names):
    """The machine with each letter that is a key of names exchanged for what names has."""
    check_machine(machine)
    if not _is_renaming(machine, names):
        raise BadNames("names are a dict from letters of the machine to letters")
    told = [names.get(letter, letter) for letter in machine.letters]
    letters = in_order(told)
    numbers = number_of_letters(letters)
    ways = [[(numbers[told[k]], goal) for k, goal in row] for row in machine.ways]
    return grown_sets(letters, [0], lambda state: ways[state], no_silent, _is_end_of(machine))


def _is_renaming(machine, names):
    if not isinstance(names, dict):
        return False
    for letter, goal in names.items():
        if not is_letter(letter) or letter not in machine.letters or not is_letter(goal):
            return False
    return True


def put_for(machine, letter, other):
    """The machine that takes rows of machine with rows of other in the place of the letter."""
    check_machine(machine)
    check_machine(other)
    if not is_letter(letter) or letter not in machine.letters:
        raise BadLetter("no letter of the machine")
    kept = [one for one in machine.letters if one != letter]
    letters = in_order(kept + list(other.letters))
    ways, silent = _parted_ways(machine, kept)
    numbers = number_of_letters(letters)
    places = [numbers[one] for one in kept]
    ways = [[(places[k], goal) for k, goal in row] for row in ways]
    return _with_runs(letters, (ways, silent), _is_end_of(machine), other)


def _with_runs(letters, parted, is_end, other):
    """The machine of standings in machine, and of those in a run of other that leads to one.

    The standing in state of a run that leads to goal is numbered behind all of machine.
    """
    ways, silent = parted
    many = len(ways)
    run_ways = ways_over(other, letters)
    other_ends = end_table(other)

    def moves(standing):
        if standing < many:
            return ways[standing]
        goal, state = divmod(standing - many, len(run_ways))
        shift = standing - state
        return [(k, shift + there) for k, there in run_ways[state]]

    def silent_from(standing):
        if standing < many:
            return [many + goal * len(run_ways) for goal in silent[standing]]
        goal, state = divmod(standing - many, len(run_ways))
        return [goal] if state in other_ends else []

    return grown_sets(letters, [0], moves, silent_from, is_end)
