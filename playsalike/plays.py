"""The ended plays of pieces, and the machines that take just them."""

from playsalike.asking import count_rows, first_row, rows_of
from playsalike.errors import BadNumber, BadRow
from playsalike.kinds import is_list, is_within
from playsalike.letters import is_letters
from playsalike.machines import takes
from playsalike.moves import moves_of
from playsalike.nets import net_of
from playsalike.pieces import check_piece, plan_of_piece
from playsalike.playing import is_begun, is_play
from playsalike.rests import next_letters


def net_of_piece(piece):
    """The net of all plays of the piece."""
    return net_of(piece.size, piece.kind, plan_of_piece(piece), moves_of(piece))


def machine_of(piece):
    """The machine that takes just the ended plays of the piece."""
    check_piece(piece)
    return net_of_piece(piece).states.machine()


def has_play(piece, thing):
    """Whether thing is an ended play of the piece."""
    machine = machine_of(piece)
    return is_letters(thing) and takes(machine, thing)


def plays_up_to(piece, most):
    """The list of the ended plays of the piece of at most so many moves, lesser ones first."""
    check_piece(piece)
    if not is_within(most, 0, 100):
        raise BadNumber("most")
    return rows_of(machine_of(piece), most)


def how_many_plays(piece, length):
    """How many ended plays of just so many moves the piece has."""
    check_piece(piece)
    if not is_within(length, 0, 1000):
        raise BadNumber("length")
    return count_rows(machine_of(piece), length)


def least_play(piece):
    """The least ended play of the piece, None if there is none."""
    return first_row(machine_of(piece))


def asked_names(piece):
    """The ascending list of the names of the piece of which some move stands in an ended play."""
    machine = machine_of(piece)
    found = {}
    for row in machine.ways:
        for k, _ in row:
            word = name_of_move(machine.letters[k])
            if word is not None:
                found[word] = True
    return sorted(found)


def name_of_move(move):
    """The name that a move of a piece is about, None if it is about none."""
    if len(move) > 1 and isinstance(move[1], str):
        return move[1]
    return None


def reply(piece, row):
    """The move that the piece tells behind a row whose last move is heard, None if none."""
    check_piece(piece)
    if not is_begun(piece, row) or len(row) % 2 == 0:
        raise BadRow("a begun play whose last move is heard is wanted")
    told = next_letters(machine_of(piece), row)
    return told[0] if len(told) > 0 else None


def may_hear(piece, row):
    """The list, in order, of the moves that can stand behind a row whose last move is told."""
    check_piece(piece)
    if not _waits_for_move(piece, row):
        raise BadRow("no moves, or a begun play that waits for a heard one, are wanted")
    return next_letters(machine_of(piece), row)


def _waits_for_move(piece, row):
    if is_list(row) and len(row) == 0:
        return True
    return is_begun(piece, row) and len(row) % 2 == 0 and not is_play(piece, row)
