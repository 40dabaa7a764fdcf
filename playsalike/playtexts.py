"""Texts of begun plays, there and back."""

from playsalike.errors import BadRow
from playsalike.heardmoves import heard_moves, told_moves
from playsalike.pieces import check_piece
from playsalike.playing import BREAK, FIRST, can_follow, is_begun, waits_behind
from playsalike.textreader import next_signs, read_whole


class MoveStanding:
    """What stands behind some tokens of a begun play: its moves, and the things of the one begun.

    turns are the moves that can be heard and those that can be told; waits are the questions that
    wait ahead of the move that is begun, coming are the moves that this may be.
    """

    def __init__(self, turns, moves, waits, things, coming):
        self.turns = turns
        self.moves = moves
        self.waits = waits
        self.things = things
        self.coming = coming

    def next_things(self):
        """The list of what can stand behind the things in the moves that may come."""
        many = len(self.things)
        return [move[many] for move in self.coming if len(move) > many]

    def can_begin(self, letters):
        """Whether some word that can come begins with these letters."""
        return any([isinstance(thing, str) and thing.startswith(letters) for thing in self.next_things()])

    def take_word(self, word):
        """The standing behind a word, None if it cannot come."""
        return self._taken(word)

    def take_figure(self, figure):
        """The standing behind a figure, None if it cannot come."""
        return self._taken(figure)

    def _taken(self, thing):
        things = self.things + (thing,)
        coming = [move for move in self.coming if move[:len(things)] == things]
        if len(coming) == 0:
            return None
        return MoveStanding(self.turns, self.moves, self.waits, things, coming)

    def take_sign(self, sign):
        """The standing behind the sign between moves, None if it cannot come."""
        if sign != ";" or not self._is_move() or self.things == BREAK:
            return None
        moves = self.moves + [self.things]
        waits = [FIRST] if len(moves) == 1 else waits_behind(self.waits, self.things)
        coming = [move for move in self.turns[len(moves) % 2] if can_follow(waits, move)]
        return MoveStanding(self.turns, moves, waits, (), coming) if len(coming) > 0 else None

    def _is_move(self):
        return self.things in self.coming

    def whole(self):
        """The list of the moves if a begun play ends here, None otherwise."""
        return self.moves + [self.things] if self._is_move() else None


def _start(piece):
    """What stands ahead of all begun plays of the piece."""
    return MoveStanding((heard_moves(piece), told_moves(piece)), [], [], (), [FIRST])


def play_text(piece, row):
    """The text of a begun play: its moves, each told by its things."""
    check_piece(piece)
    if not is_begun(piece, row):
        raise BadRow("a begun play of the piece is wanted")
    return "; ".join([" ".join([str(thing) for thing in move]) for move in row])


def play_of_text(piece, text):
    """The list of the moves of a text of a begun play."""
    check_piece(piece)
    return read_whole(_start(piece), text).whole()


def next_in_play(piece, text):
    """The pair of whether a beginning is a text of a begun play, and of the signs that can come next."""
    check_piece(piece)
    return next_signs(_start(piece), text)
