"""Houses: pieces that are played move by move, without their machines."""

from playsalike.errors import BadMove
from playsalike.letters import in_order, is_letter
from playsalike.pieces import check_piece
from playsalike.players import player_of_piece


class House:
    """A piece that is played: it hears a move and tells one, until it ends, breaks or is lost."""

    def __init__(self, piece):
        check_piece(piece)
        self.piece = piece
        self.moves = ()
        self.word = "new"
        self._player = player_of_piece(piece)

    def can_hear(self):
        """The list, in order, of the moves that can come."""
        return in_order(self._player.can_hear())

    def hear(self, move):
        """Goes on behind the move: the move that is told then, None if none is told any more."""
        check_heard(self, move)
        told = self._player.hear(move)
        self.word = self._player.word
        self.moves = moves_behind(self.moves, move, told)
        return told

    def twin(self):
        """A house of its own with the same piece and moves."""
        other = House(self.piece)
        other.moves = self.moves
        other.word = self.word
        other._player = self._player.twin()
        return other

    def steps(self):
        """How many nodes were begun so far, None if it is lost."""
        return None if self.word == "lost" else self._player.work.steps

    def spots(self):
        """The list of the places of the nodes that wait, the outermost first."""
        return self._player.spots()

    def boxes(self):
        """The ascending dict from the places of new boxes to what is in them now."""
        return self._player.boxes()


def check_heard(house, move):
    """Raises BadMove unless the move can come in a house or a couple."""
    if not is_letter(move) or move not in house.can_hear():
        raise BadMove("this move cannot come now")


def moves_behind(moves, heard, told):
    """The moves with the one that was heard, and the one that was told then, if there is one."""
    return moves + ((heard,) if told is None else (heard, told))
