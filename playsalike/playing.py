"""Begun plays and plays of the moves of a piece, whatever stands in its term."""

from playsalike.errors import BadRow
from playsalike.heardmoves import heard_moves, told_moves
from playsalike.kinds import is_list
from playsalike.letters import is_letters
from playsalike.pieces import check_piece

FIRST = ("ask",)
BREAK = ("break",)

# The words of answers for the words of questions.
ANSWERS = {
    "ask": ("num", "do", "did"),
    "call": ("num", "did"),
    "get": ("value",),
    "set": ("kept",),
}


def is_begun(piece, thing):
    """Whether thing is a begun play of the moves of the piece."""
    check_piece(piece)
    return _waits(piece, thing) is not None


def is_play(piece, thing):
    """Whether thing is a play: a begun one whose first question is answered, or a broken one."""
    check_piece(piece)
    waits = _waits(piece, thing)
    if waits is None:
        return False
    return len(waits) == 0 or thing[-1] == BREAK


def waiting(piece, row):
    """The list of the questions that wait behind a begun play, the first one first."""
    check_piece(piece)
    waits = _waits(piece, row)
    if waits is None:
        raise BadRow("a begun play of the piece is wanted")
    return waits


def _waits(piece, thing):
    """The questions that wait behind thing, None if it is no begun play."""
    if not is_list(thing) or not is_letters(thing) or list(thing[:1]) != [FIRST]:
        return None
    turns = (moves_table(heard_moves(piece)), moves_table(told_moves(piece)))
    waits = [FIRST]
    for at in range(1, len(thing)):
        move = thing[at]
        if thing[at - 1] == BREAK or move not in turns[at % 2] or not can_follow(waits, move):
            return None
        waits = waits_behind(waits, move)
    return waits


def moves_table(moves):
    """A dict that has the moves as its keys."""
    return {move: True for move in moves}


def can_follow(waits, move):
    """Whether a move, made by whose turn it is, can stand where these questions wait."""
    if len(waits) == 0:
        return False
    if move == BREAK:
        return True
    about = _about(move)
    if move[0] not in ANSWERS:
        return move[0] in ANSWERS[waits[-1][0]] and about == _about(waits[-1])
    if len(about) == 2:
        return waits[-1] == ("call", about[0])
    return len(about) == 1


def waits_behind(waits, move):
    """The questions that wait behind a move that can stand where these wait."""
    if move == BREAK:
        return waits
    if move[0] in ANSWERS:
        return waits + [move]
    return waits[:-1]


def _about(move):
    """What a move is about: a name, a name and an argument's place, or nothing."""
    return move[1:-1] if move[0] in ("num", "value", "set") else move[1:]
