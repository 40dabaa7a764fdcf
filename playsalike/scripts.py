"""Plays told by beats, and terms that choose by the beat that a counter of boxes keeps."""

from playsalike.counters import chosen, counter_words
from playsalike.errors import BadPlay, TooMany
from playsalike.playing import is_play, waits_behind
from playsalike.shapes import SKIP

MOST_MOVES = 200
STOP = ("never", "do")


class Script:
    """A play, told by beats from 0 on: in each one a move is heard, and one is told.

    heard and told are the moves of the beats; asked are the questions that wait last ahead of
    heard ones (None ahead of the first one), waits those that wait last ahead of told ones.
    words are those of the boxes of a counter of beats.
    """

    def __init__(self, piece, play):
        self.size = piece.size
        self.names = piece.names
        self.kind = piece.kind
        self.heard = list(play[::2])
        self.told = list(play[1::2])
        self.asked = []
        self.waits = []
        waiting = []
        for heard, told in zip(self.heard, self.told):
            self.asked.append(waiting[-1] if len(waiting) > 0 else None)
            waiting = waits_behind(waiting, heard)
            self.waits.append(waiting[-1])
            waiting = waits_behind(waiting, told)
        self.words = counter_words({**piece.names, "it": True}, len(self.told) - 1)

    def number_at(self, numbers):
        """The term that is, at each beat that is a key of numbers, that number; it never ends at None."""
        if len(numbers) == 0:
            return ("never", "num")
        terms = [("number", number) for number in range(self.size)] + [("never", "num")]
        keys = {beat: self.size if number is None else number for beat, number in numbers.items()}
        return chosen(self.words, keys, terms)

    def let_at(self, lets):
        """The deed that does nothing at each beat for which lets has True, and never ends at others."""
        if len(lets) == 0:
            return STOP
        return chosen(self.words, {beat: 1 if let else 0 for beat, let in lets.items()}, [STOP, SKIP])


def check_play(piece, play):
    """Raises BadPlay unless this is a play of the piece's kind, TooMany if it has too many moves."""
    if not is_play(piece, play):
        raise BadPlay("a play of the piece's kind is wanted")
    if len(play) > MOST_MOVES:
        raise TooMany(MOST_MOVES)


def then(deed, term):
    """The term with this deed ahead of it, or just one of both if the other one is nothing."""
    if deed == SKIP:
        return term
    return deed if term == SKIP else ("then", deed, term)
