"""Machines that take no row, just one, rows of one letter, or all rows."""

from playsalike.errors import BadRow
from playsalike.letters import in_order, is_letters, number_of_letters
from playsalike.machines import least_machine


def nothing(letters):
    """The machine with these letters that takes no row."""
    return least_machine(in_order(letters), [[]], [])


def empty(letters):
    """The machine that takes just the row without letters."""
    return least_machine(in_order(letters), [[]], [0])


def just(letters, row):
    """The machine that takes just this row."""
    own = in_order(letters)
    numbers = number_of_letters(own)
    _check_row_of(numbers, row)
    ways = [[(numbers[letter], at + 1)] for at, letter in enumerate(row)]
    return least_machine(own, ways + [[]], [len(row)])


def one_of(letters, some):
    """The machine that takes the rows of just one letter, one of some."""
    own = in_order(letters)
    numbers = number_of_letters(own)
    _check_row_of(numbers, some)
    way = [(numbers[letter], 1) for letter in in_order(some)]
    return least_machine(own, [way, []], [1])


def all_rows(letters):
    """The machine that takes all rows of these letters."""
    own = in_order(letters)
    return least_machine(own, [[(k, 0) for k in range(len(own))]], [0])


def _check_row_of(numbers, row):
    """Raises BadRow unless row is a list of letters that are numbered."""
    if not is_letters(row) or not all([letter in numbers for letter in row]):
        raise BadRow("a row of other letters, or none")
