"""Whether pieces do the same, or one never does more than the other, in all programs around."""

from playsalike.asking import least_row
from playsalike.errors import BadPiece
from playsalike.growing import pair_moves
from playsalike.letters import number_of_letters
from playsalike.machines import end_table
from playsalike.pieces import check_piece
from playsalike.playing import BREAK
from playsalike.plays import machine_of


def same(piece, other):
    """Whether both pieces have the same plays."""
    check_kinds(piece, other)
    return machine_of(piece) == machine_of(other)


def less(piece, other):
    """Whether each play of piece is one of other, or, if broken, goes on from a broken one."""
    check_kinds(piece, other)
    return first_more(machine_of(piece), machine_of(other)) is None


def check_kinds(piece, other):
    """Raises BadPiece unless both are Pieces of one kind."""
    check_piece(piece)
    check_piece(other)
    if not is_kind(piece, other):
        raise BadPiece("kind")


def is_kind(piece, other):
    """Whether two Pieces are of one kind."""
    return (piece.size == other.size and piece.names == other.names
            and piece.kind == other.kind)


def first_more(machine, other):
    """The least play of one machine by which it is not less than the other one, or None.

    Both are machines of pieces of one kind. Plays are walked along in pairs of states; the third
    thing tells whether the last move is a break. Where the other one breaks, None takes the
    place of the pair: only an unbroken play can show it then.
    """
    breaking = number_of_letters(machine.letters)[BREAK]
    pairs = pair_moves(machine.ways, other.ways, lambda pair: pair[0] is not None)
    breaks = [breaking in dict(row) for row in other.ways]
    ends = end_table(machine)
    other_ends = end_table(other)

    def moves(key):
        state, there, _, is_covered = key
        covered = is_covered or there is not None and breaks[there]
        return [(k, (goal[0], goal[1], k == breaking, covered)) for k, goal in pairs((state, there))]

    def is_wanted(key):
        state, there, is_broken, is_covered = key
        if state not in ends or there in other_ends:
            return False
        return not (is_broken and is_covered)

    return least_row(machine.letters, (0, 0, False, False), moves, is_wanted)
