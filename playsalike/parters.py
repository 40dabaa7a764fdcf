"""Programs that tell two pieces apart."""

from playsalike.partings import parting
from playsalike.playwrights import around_of


def parter(piece, other):
    """The pair of a program that ends, or lets break, around just one of both, and which; or None."""
    found = parting(piece, other)
    if found is None:
        return None
    play, which = found
    return (around_of(piece, play), which)
