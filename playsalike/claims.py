"""Claims within pieces: where they stand, and whether one can break."""

from playsalike.asking import first_row
from playsalike.machines import end_table, least_machine
from playsalike.pieces import check_piece
from playsalike.playing import BREAK
from playsalike.plays import machine_of
from playsalike.shapes import all_parts


def claims_in(piece):
    """The ascending list of the places at which a claim stands in the term of the piece."""
    check_piece(piece)
    return sorted([at for at, part in all_parts(piece.term) if part[0] == "claim"])


def least_break(piece):
    """The least broken play of the piece, a tuple, None if there is none."""
    return first_play(ended_by(machine_of(piece), lambda move: move == BREAK))


def is_safe(piece):
    """Whether the piece has no broken play."""
    return least_break(piece) is None


def ended_by(machine, is_wanted):
    """The machine of those plays of a machine of plays whose last move is wanted."""
    ends = end_table(machine)
    wanted = [is_wanted(letter) for letter in machine.letters]
    ways = [[(k, goal) for k, goal in row if goal not in ends or wanted[k]]
            for row in machine.ways]
    return least_machine(machine.letters, ways, machine.ends)


def first_play(machine):
    """The least play that the machine takes, a tuple, None if there is none."""
    row = first_row(machine)
    return None if row is None else tuple(row)
