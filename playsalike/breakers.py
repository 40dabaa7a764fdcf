"""Programs around which a piece is broken, or ends, found by its least plays."""

from playsalike.claims import least_break
from playsalike.endings import play_for
from playsalike.playwrights import around_of


def breaker(piece):
    """A program around which the piece is broken, None if it is safe."""
    return _around_play(piece, least_break(piece))


def ender(piece, number):
    """A program that ends around the piece by its least play to this number, None if it has none."""
    return _around_play(piece, play_for(piece, number))


def _around_play(piece, play):
    return None if play is None else around_of(piece, play)
