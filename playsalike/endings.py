"""How pieces can end, and which names they must ask ahead of it."""

from playsalike.claims import ended_by, first_play
from playsalike.errors import BadNumber
from playsalike.kinds import is_within
from playsalike.machines import least_machine
from playsalike.pieces import check_piece
from playsalike.players import last_told
from playsalike.plays import machine_of, name_of_move


def answers(piece):
    """The ascending list of the numbers with which the piece ends unbroken; 0 is that of a deed."""
    machine = machine_of(piece)
    told = [machine.letters[k] for row in machine.ways for k, goal in row]
    return [number for number in _numbers_of(piece) if last_told(piece.kind, number) in told]


def _numbers_of(piece):
    return list(range(piece.size if piece.kind == "num" else 1))


def play_for(piece, number):
    """The least unbroken play of the piece that ends so, a tuple, None if there is none."""
    check_piece(piece)
    if not is_within(number, 0, len(_numbers_of(piece)) - 1):
        raise BadNumber("number")
    last = last_told(piece.kind, number)
    return first_play(ended_by(machine_of(piece), lambda move: move == last))


def must_ask(piece):
    """The ascending list of the names of the piece that have a move in each play of it."""
    machine = machine_of(piece)
    return [word for word in piece.names if not _has_play_without(machine, word)]


def _has_play_without(machine, word):
    about = [name_of_move(letter) == word for letter in machine.letters]
    ways = [[(k, goal) for k, goal in row if not about[k]] for row in machine.ways]
    return len(least_machine(machine.letters, ways, machine.ends).ends) > 0
