"""Couples: pieces that are played together with what is given for some of their names."""

from playsalike.couplings import coupling_of
from playsalike.givings import check_givings
from playsalike.houses import check_heard, moves_behind
from playsalike.letters import in_order
from playsalike.passing import is_last
from playsalike.pieces import check_piece
from playsalike.playing import BREAK
from playsalike.sorts import ascending


class Couple:
    """A piece and what is given for some of its names, played like a house by all other moves."""

    def __init__(self, piece, givings):
        check_piece(piece)
        check_givings(piece, givings)
        self.piece = piece
        self.givings = ascending(givings)
        self.moves = ()
        self.word = "new"
        self._coupling = coupling_of(piece, givings)

    def can_hear(self):
        """The list, in order, of the moves that can come."""
        if self.word in ("ended", "broken", "lost"):
            return []
        return in_order(self._coupling.speaker().can_hear())

    def hear(self, move):
        """Goes on behind the move: the move that is told then, None if none is told any more."""
        check_heard(self, move)
        told = self._coupling.hear(move)
        self.word = _word_behind(told)
        self.moves = moves_behind(self.moves, move, told)
        return told

    def twin(self):
        """A couple of its own with the same piece, givings and moves."""
        other = Couple(self.piece, self.givings)
        other.moves = self.moves
        other.word = self.word
        other._coupling = self._coupling.twin()
        return other

    def passed(self):
        """How many moves have been passed within so far, None if it is lost."""
        return None if self.word == "lost" else self._coupling.passed


def _word_behind(told):
    """How a couple is behind a told move."""
    if told is None:
        return "lost"
    if told == BREAK:
        return "broken"
    return "ended" if is_last(told) else "waits"
