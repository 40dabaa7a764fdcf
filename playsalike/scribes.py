"""Scribes: houses that keep their log on a disk, and tell only what is sure."""

from playsalike.errors import BadLog, BadNumber, BadScribe
from playsalike.heardmoves import told_moves
from playsalike.houselogs import read_log, told_byte
from playsalike.houses import check_heard
from playsalike.kinds import is_within


class Scribe:
    """A house with a log on a disk: sure are the bytes that stand there, late those that do not yet."""

    def __init__(self, piece, thing):
        house, good, why = read_log(piece, thing)
        if why == "strange":
            raise BadLog(good)
        self.piece = piece
        self.house = house
        self.sure = tuple(thing)
        self.late = ()
        self._told = 0
        if why == "torn":
            self.late = (self._heard(house.can_hear()[thing[good]]),)

    def _heard(self, move):
        """The byte of what the house tells behind a move that can come."""
        return told_byte(told_moves(self.piece), self.house.hear(move))

    def hear(self, move):
        """Lets the house hear the move; what is to be written is late."""
        check_heard(self.house, move)
        place = self.house.can_hear().index(move)
        self.late = self.late + (place, self._heard(move))

    def tell(self):
        """Writes all that is late; the tuple of the moves told since the last time."""
        self.sure = self.sure + self.late
        self.late = ()
        told = self.house.moves[1::2]
        further = told[self._told:]
        self._told = len(told)
        return further


def fallen(scribe, kept):
    """The bytes that are found if it falls with the first so many late ones kept."""
    if not isinstance(scribe, Scribe):
        raise BadScribe("a Scribe is wanted")
    if not is_within(kept, 0, len(scribe.late)):
        raise BadNumber("kept")
    return scribe.sure + scribe.late[:kept]
