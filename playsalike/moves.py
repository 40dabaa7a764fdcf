"""Moves: who makes them, and which ones there are of a piece."""

from playsalike.errors import BadMove
from playsalike.heardmoves import moves_over
from playsalike.kinds import is_within, is_word
from playsalike.pieces import check_piece

# The things behind the words of moves: w a name's word, i an argument's place, n a number.
TOLD = (
    ("num", "n"), ("do",), ("break",), ("call", "w"), ("get", "w"), ("set", "w", "n"),
    ("num", "w", "i", "n"), ("did", "w", "i"), ("value", "w", "i", "n"), ("kept", "w", "i"),
    ("value", "n"), ("kept",),
)
HEARD = (
    ("ask",), ("num", "w", "n"), ("did", "w"), ("value", "w", "n"), ("kept", "w"),
    ("ask", "w", "i"), ("get", "w", "i"), ("set", "w", "i", "n"), ("get",), ("set", "n"),
)


def teller(move):
    """Who makes a move: piece or around."""
    if any([_has_form(form, move) for form in TOLD]):
        return "piece"
    if any([_has_form(form, move) for form in HEARD]):
        return "around"
    raise BadMove("no move")


def _has_form(form, move):
    if not isinstance(move, tuple) or len(move) != len(form):
        return False
    if not isinstance(move[0], str) or move[0] != form[0]:
        return False
    return all([_is_thing(wanted, thing) for wanted, thing in zip(form[1:], move[1:])])


def _is_thing(wanted, thing):
    if wanted == "w":
        return is_word(thing)
    return is_within(thing, 0, 2 if wanted == "i" else 3)


def moves_of(piece):
    """The list, in order, of all moves of a piece."""
    check_piece(piece)
    return moves_over(piece.size, piece.kind, piece.names)
